/-
  The contract of spec.GridOk: it returns what the plain function 'okG' says of a grid's width and cells, whatever they are, and turns no memory that was there.
-/
import Derived.Test.YtankkkiccokggaaGa
namespace Go.Proofs.Ytankkkiccokggaa
open Go.RowKit

set_option maxHeartbeats 800000 in
theorem specGridOk_any (wd : Int) (a : Option Addr) (cap : Nat) (cs : List (Int × Int)) (w : World) (h : CellsAt w a cs) (hm : cs.length ≤ 4611686018427387904) :
    Calls Try.prog 21 #[.agg #[.int .i64 wd, .slice a cs.length cap]] w fun e w' => e = .returned (.bool (okG wd cs)) ∧ Below w.heap.size w w' := by
  by_cases h1 : 1 ≤ wd ∧ wd ≤ 5
  · obtain ⟨h1, h2⟩ := h1
    have hq0 : 0 ≤ (cs.length : Int) / wd := Int.ediv_nonneg (by omega) (by omega)
    have hq1 : (cs.length : Int) / wd ≤ cs.length := Int.ediv_le_self _ (by omega)
    have hi1 : inB wd 1 5 = true := by simp [inB, h1, h2]
    by_cases h3 : (cs.length : Int) % wd = 0
    · by_cases h4 : 1 ≤ (cs.length : Int) / wd ∧ (cs.length : Int) / wd ≤ 5
      · obtain ⟨h4, h5⟩ := h4
        have hi2 : inB ((cs.length : Int) / wd) 1 5 = true := by simp [inB, h4, h5]
        have hne : cs ≠ [] := by intro hx; subst hx; simp at h4
        have HS : Hid (sizeG wd cs.length = true) := by show sizeG wd cs.length = true; simp [sizeG, h1, h2, h3, h4, h5]
        rcases h with h | ⟨b, off, rfl, hbl, hcell⟩
        · exact absurd h hne
        go_enter Try.func21, Try.ntmps21
        go_wp2_with (go_at_call 37; refine (l6In_any _ _ _ _).mono ?_; rintro e w' ⟨rfl, rfl⟩)
        go_loopw [3] (fun i wr => ∃ k : Nat, k ≤ cs.length ∧ i = .int .i64 k ∧ ((cs.take k).all fun c => okC c.1 c.2) = true ∧ Below w.heap.size w wr ∧ w.heap.size < wr.heap.size ∧ wr.cell? ⟨w.heap.size, 1, none⟩ = some (.slice (some ⟨b, off, none⟩) cs.length cap)) (fun i _ => cs.length - (intOf i).toNat)
        case atStart => exact ⟨0, Nat.zero_le _, rfl, by simp, (by repeat (first | exact Below.refl _ _ | refine Below.alloc ?_ (by first | exact Nat.le_refl _ | (simp; done) | (simp; omega)) _ | refine Below.drew ?_ | refine Below.setCell ?_ (by first | exact Nat.le_refl _ | (simp; done) | (simp; omega)) _)), by simp, by simp⟩
        case round =>
          obtain ⟨k, hk, rfl, hall, hb, hzr, hbox⟩ := hrel
          by_cases hlt : k < cs.length
          · obtain ⟨hx, hy⟩ := hcell k hlt
            rw [← hb.cell (p := ⟨b, _, none⟩) hbl] at hx hy
            have HA : Hid (((cs.take (k + 1)).all fun c => okC c.1 c.2) = okC cs[k].1 cs[k].2) := by show _ = _; rw [all_snoc cs k hlt, hall]; simp
            clear hall
            by_cases hok : okC cs[k].1 cs[k].2 = true
            · go_wp2_with fail
              refine (specCellOk_any _ _ _).mono ?_
              rintro e w2 ⟨rfl, hb2⟩
              have hz2 := hb2.size
              go_wp2
              go_roundw
              case rel => exact ⟨k + 1, by omega, by go_num, by rw [HA.out]; exact hok, bcall hb (by omega) hb2, by omega, by rw [hb2.cell (p := ⟨w.heap.size, 1, none⟩) hzr]; exact hbox⟩
              case measure => simp [intOf]; omega
            · have hok' : okC cs[k].1 cs[k].2 = false := by simpa using hok
              clear hok
              go_wp2_with fail
              refine (specCellOk_any _ _ _).mono ?_
              rintro e w2 ⟨rfl, hb2⟩
              go_wp2
              go_ret
              exact ⟨by rw [okG_no wd cs k hlt hok']; rfl, bcall hb (by omega) hb2⟩
          · go_wp2
            go_ret
            exact ⟨by rw [okG_yes wd cs HS.out (by rw [List.take_of_length_le (by omega)] at hall; exact hall)]; rfl, hb⟩
      · have hi2 : inB ((cs.length : Int) / wd) 1 5 = false := by simp [inB]; omega
        go_enter Try.func21, Try.ntmps21
        go_wp2_with (go_at_call 37; refine (l6In_any _ _ _ _).mono ?_; rintro e w' ⟨rfl, rfl⟩)
        go_ret
        exact ⟨by rw [okG_size wd cs (by simp [sizeG]; omega)]; rfl, (by repeat (first | exact Below.refl _ _ | refine Below.alloc ?_ (by first | exact Nat.le_refl _ | (simp; done) | (simp; omega)) _ | refine Below.drew ?_ | refine Below.setCell ?_ (by first | exact Nat.le_refl _ | (simp; done) | (simp; omega)) _))⟩
    · go_enter Try.func21, Try.ntmps21
      go_wp2_with (go_at_call 37; refine (l6In_any _ _ _ _).mono ?_; rintro e w' ⟨rfl, rfl⟩)
      go_ret
      exact ⟨by rw [okG_size wd cs (by simp [sizeG]; omega)]; rfl, (by repeat (first | exact Below.refl _ _ | refine Below.alloc ?_ (by first | exact Nat.le_refl _ | (simp; done) | (simp; omega)) _ | refine Below.drew ?_ | refine Below.setCell ?_ (by first | exact Nat.le_refl _ | (simp; done) | (simp; omega)) _))⟩
  · have hi1 : inB wd 1 5 = false := by simp [inB]; omega
    go_enter Try.func21, Try.ntmps21
    go_wp2_with (go_at_call 37; refine (l6In_any _ _ _ _).mono ?_; rintro e w' ⟨rfl, rfl⟩)
    go_ret
    exact ⟨by rw [okG_size wd cs (by simp [sizeG]; omega)]; rfl, (by repeat (first | exact Below.refl _ _ | refine Below.alloc ?_ (by first | exact Nat.le_refl _ | (simp; done) | (simp; omega)) _ | refine Below.drew ?_ | refine Below.setCell ?_ (by first | exact Nat.le_refl _ | (simp; done) | (simp; omega)) _))⟩

end Go.Proofs.Ytankkkiccokggaa
