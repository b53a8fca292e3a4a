/-
  The contract of impl.PicText, at every grid and every picture.
-/
import Derived.Test.YtnochicpkcjjlaaDoorHe
import Derived.Deep.RegionHeld3
import Derived.Deep.RegionWith
namespace Go.Proofs.YtnochicpkcjjlaaDoor
open Go.RowKit
set_option linter.unusedVariables false

/-- The text of a picture. -/
def picT (wd : Int) (cs : List (Int × Int)) (xs : List Int) : List UInt8 := if okG wd cs = true ∧ (xs.length : Int) = manyG wd cs then picL wd.toNat (cs.length / wd.toNat) xs else []
theorem implOkR {wd : Int} {cs : List (Int × Int)} {b : Bool} (hv : okG wd cs = b) (a : Option Addr) (cap : Nat) (w : World) (h : CellsAt w a cs) (hm : cs.length ≤ 1048576) :
    Calls Tryd.prog 19 #[.agg #[.int .i64 wd, .slice a cs.length cap]] w fun e w' => e = .returned (.bool b) ∧ Below w.heap.size w w' := by
  rw [← hv]; exact implGridOk_any wd a cap cs w h (by omega)
theorem implManyR {wd : Int} {cs : List (Int × Int)} {M : Int} (hv : manyG wd cs = M) (a : Option Addr) (cap : Nat) (w : World) (h : CellsAt w a cs) (hm : cs.length ≤ 1048576) :
    Calls Tryd.prog 20 #[.agg #[.int .i64 wd, .slice a cs.length cap]] w fun e w' => e = .returned (.int .i64 M) ∧ Below w.heap.size w w' := by
  rw [← hv]; exact implMany_any wd a cap cs w h (by omega)

set_option maxRecDepth 20000 in
set_option maxHeartbeats 2000000 in
theorem implPicText_any (wd : Int) (a : Option Addr) (cap : Nat) (cs : List (Int × Int)) (w : World) (h : CellsAt w a cs) (hm : cs.length ≤ 1048576) (pa : Option Addr) (pc : Nat) (xs : List Int) (hR : R1At w pa xs) (hxm : xs.length ≤ 1048576) (hcap : xs.length ≤ pc)
    (hx : ∀ x ∈ xs, -9223372036854775808 ≤ x ∧ x ≤ 9223372036854775807) (ht : Tab w) :
    Calls Tryd.prog 6 #[.agg #[.int .i64 wd, .slice a cs.length cap], .slice pa xs.length pc] w fun e w' => e = .returned (.string (str (picT wd cs xs))) ∧ Below w.heap.size w w' := by
  obtain ⟨w2, hw2⟩ : ∃ w2, w2 = (w.alloc (.cells #[.int .i64 wd, .slice a cs.length cap] 25)).alloc (.cells #[.slice pa xs.length pc] 26) := ⟨_, rfl⟩
  have hb2 : Below w.heap.size w w2 := by rw [hw2]; exact (by repeat (first | exact Below.refl _ _ | refine Below.alloc ?_ (by first | exact Nat.le_refl _ | (simp; done) | (simp; omega)) _ | refine Below.drew ?_ | refine Below.setCell ?_ (by first | exact Nat.le_refl _ | (simp; done) | (simp; omega)) _))
  have g0 : w2.cell? ⟨w.heap.size, 0, none⟩ = some (.int .i64 wd) := by rw [hw2]; simp [go_sem]
  have g1 : w2.cell? ⟨w.heap.size, 1, none⟩ = some (.slice a cs.length cap) := by rw [hw2]; simp [go_sem]
  have p0 : w2.cell? ⟨w.heap.size + 1, 0, none⟩ = some (.slice pa xs.length pc) := by rw [hw2]; simp [go_sem]
  have hC2 := h.below hb2
  rcases hok : okG wd cs with _ | _
  · have hv : picT wd cs xs = [] := by unfold picT; rw [if_neg (by simp [hok])]
    rw [hv]
    have HOK : Hid (okG wd cs = false) := hok
    clear hok hv h hR hx ht
    go_enter Tryd.func6, Tryd.ntmps6
    go_wp2
    rw [← hw2]
    clear hw2
    first
    | (go_region_with
        (first
          | (go_at_call 19; refine (implOkR HOK.out a cap _ (by first | exact hC2 | exact hC2.below (Below.refl _ _).drew) (by omega)).mono ?_; rintro e wa ⟨rfl, hba'⟩; have hba : Below w2.heap.size w2 wa := (by first | exact hba' | exact bdrew hba'))
          | fail))
    | fail
    all_goals
      go_wp2_with fail
      go_ret
      exact ⟨rfl, by first | exact bcall hb2 hb2.size hba | exact (bcall hb2 hb2.size hba).drew⟩
  · obtain ⟨M, hM⟩ : ∃ M, manyG wd cs = M := ⟨_, rfl⟩
    have EM : Hid (manyG wd cs = M) := hM
    have HOK : Hid (okG wd cs = true) := hok
    have HC : Hid (CellsAt w2 a cs) := hC2
    by_cases hlen : (xs.length : Int) = M
    · have bn : ((xs.length : Int) != M) = false := by simp [hlen]
      obtain ⟨W, H, rfl, h1, h2, h3, h4, el, hH, hHI⟩ := okG_nat wd cs hok
      have h25 : cs.length ≤ 25 := by rw [el]; exact Nat.mul_le_mul h2 h4
      have hMW : M = 2 * ((W : Int) + (H : Int)) := by rw [← hM]; unfold manyG; rw [if_pos hok, hHI]
      have hv : picT (W : Int) cs xs = picL W H xs := by unfold picT; rw [if_pos ⟨hok, by rw [hM]; exact hlen⟩, Int.toNat_natCast, hH]
      rw [hv]
      have HXL : Hid (xs.length = W + H + W + H) := by show _ = _; omega
      obtain ⟨b, off, rfl, _, _⟩ := hR.at (i := 0) (by have := HXL.out; omega)
      have hR2 := hR.below hb2
      have ht2 := ht.below hb2
      have HX : Hid (∀ x ∈ xs, -9223372036854775808 ≤ x ∧ x ≤ 9223372036854775807) := hx
      have HH : Hid (cs.length / W = H) := hH
      have hn25 : cs.length ≤ 25 := by omega
      have HT : Hid (Tab w2) := ht2
      have HR : Hid (R1At w2 (some ⟨b, off, none⟩) xs) := hR2
      clear hlen hM hv h hR hx ht hH hHI el h25 hMW hC2 hok hR2 ht2
      go_enter Tryd.func6, Tryd.ntmps6
      go_wp2
      rw [← hw2]
      clear hw2
      go_region_held3 (fun w' => w'.cell? ⟨w.heap.size, 0, none⟩ = some (.int .i64 (W : Int)) ∧ w'.cell? ⟨w.heap.size, 1, none⟩ = some (.slice a cs.length cap) ∧ w'.cell? ⟨w.heap.size + 1, 0, none⟩ = some (.slice (some ⟨b, off, none⟩) xs.length pc))
        (first
          | exact ⟨g0, g1, p0⟩
          | exact ⟨keepc hbb g0, keepc hbb g1, keepc hbb p0⟩
          | exact ⟨keepc hba g0, keepc hba g1, keepc hba p0⟩
          | go_keep)
        (first
          | (go_at_call 19; refine (implOkR HOK.out a cap _ (by first | exact HC.out | exact HC.out.below (Below.refl _ _).drew) (by omega)).mono ?_; rintro e wa ⟨rfl, hba'⟩; have hba : Below w2.heap.size w2 wa := (by first | exact hba' | exact bdrew hba'))
          | (go_at_call 20; refine (implManyR EM.out a cap _ (by first | exact HC.out.below hba | exact (HC.out.below hba).below (Below.refl _ _).drew) (by omega)).mono ?_; rintro e wb ⟨rfl, hbb'⟩; have hbb : Below w2.heap.size w2 wb := (by first | exact bcall hba hba.size hbb' | exact bcall hba hba.size (bdrew hbb')))
          | fail)
      all_goals
        have hB : Below w.heap.size w wb := bcall hb2 hb2.size hbb
        have g0' := keepc hbb g0
        have g1' := keepc hbb g1
        have p0' := keepc hbb p0
        have hCb := HC.out.below hbb
        have hRb := HR.out.below hbb
        have hTb := HT.out.below hbb
        clear g0 g1 p0 hbb' hba' hba
        go_wp2_with fail
        refine (goText_ok W H a cap cs _ hCb HOK.out ⟨h1, h2⟩ ⟨h3, h4⟩ hn25 HH.out (w.heap.size + 1) b off pc xs p0' hRb HXL.out hcap HX.out hTb).mono ?_
        rintro e wc ⟨rfl, hbc⟩
        go_wp2
        go_ret
        exact ⟨rfl, bcall hB hB.size hbc⟩
    · have bn : ((xs.length : Int) != M) = true := by simp [hlen]
      have hv : picT wd cs xs = [] := by unfold picT; rw [if_neg (by rw [hM]; intro q; exact hlen q.2)]
      rw [hv]
      clear hlen hM hv h hR hx ht hok hC2
      go_enter Tryd.func6, Tryd.ntmps6
      go_wp2
      rw [← hw2]
      clear hw2
      go_region_held3 (fun w' => w'.cell? ⟨w.heap.size, 0, none⟩ = some (.int .i64 wd) ∧ w'.cell? ⟨w.heap.size, 1, none⟩ = some (.slice a cs.length cap) ∧ w'.cell? ⟨w.heap.size + 1, 0, none⟩ = some (.slice pa xs.length pc))
        (first
          | exact ⟨g0, g1, p0⟩
          | exact ⟨keepc hbb g0, keepc hbb g1, keepc hbb p0⟩
          | exact ⟨keepc hba g0, keepc hba g1, keepc hba p0⟩
          | go_keep)
        (first
          | (go_at_call 19; refine (implOkR HOK.out a cap _ (by first | exact HC.out | exact HC.out.below (Below.refl _ _).drew) (by omega)).mono ?_; rintro e wa ⟨rfl, hba'⟩; have hba : Below w2.heap.size w2 wa := (by first | exact hba' | exact bdrew hba'))
          | (go_at_call 20; refine (implManyR EM.out a cap _ (by first | exact HC.out.below hba | exact (HC.out.below hba).below (Below.refl _ _).drew) (by omega)).mono ?_; rintro e wb ⟨rfl, hbb'⟩; have hbb : Below w2.heap.size w2 wb := (by first | exact bcall hba hba.size hbb' | exact bcall hba hba.size (bdrew hbb')))
          | fail)
      all_goals
        go_wp2_with fail
        go_ret
        exact ⟨rfl, bcall hb2 hb2.size hbb⟩
end Go.Proofs.YtnochicpkcjjlaaDoor
