/-
  Several texts in one: Za, Zb.
-/
import Derived.Test.YtjlnfcnmlloblaaJa
import Derived.Deep.RegionHeld3

/-
  The sights of a grid: spec.l3Many, spec.l3Ray, spec.l2Back, spec.l3Of answer what plain functions say.
-/
namespace Go.Proofs.Ytjlnfcnmlloblaa
open Go.RowKit
set_option linter.unusedVariables false

/-- The ray that comes in at a sight: its place, and way. -/
def sRay (W H k : Int) : Int × Int :=
  if k < W then (k, 2) else if k - W < H then ((k - W) * W + W - 1, 3) else if k - W - H < W then (W * H - 1 - (k - W - H), 0) else (W * H - 1 - W + 1 - (k - W - H - W) * W, 1)
/-- The sight at which light leaves, of the first n sights; -1, if it leaves at none of them. -/
def ofN (W H x d : Int) : Nat → Int
  | 0 => -1
  | n + 1 => if ofN W H x d n ≠ -1 then ofN W H x d n else if (sRay W H n).1 = x ∧ ((sRay W H n).2 + 2) % 4 = d then (n : Int) else -1

set_option maxHeartbeats 400000 in
theorem l3Many_any (W H : Nat) (a : Option Addr) (n cap : Nat) (w : World) (hW : 1 ≤ W ∧ W ≤ 5) (hH5 : H ≤ 5) (hn : n ≤ 1048576) (hH : n / W = H) :
    Calls Try.prog 35 #[.agg #[.int .i64 (W : Int), .slice a n cap]] w fun e w' => e = .returned (.int .i64 (2 * ((W : Int) + (H : Int)))) ∧ Below w.heap.size w w' := by
  have HH : Hid (n / W = H) := hH
  have w1 : IntKind.i64.wrap ((W : Int) + (H : Int)) = (W : Int) + (H : Int) := IntWalk.i64_in _ (by omega)
  have w2 : IntKind.i64.wrap (2 * ((W : Int) + (H : Int))) = 2 * ((W : Int) + (H : Int)) := IntWalk.i64_in _ (by omega)
  have hb0 : Below w.heap.size w (w.alloc (.cells #[.int .i64 (W : Int), .slice a n cap] 25)) := (by repeat (first | exact Below.refl _ _ | refine Below.alloc ?_ (by first | exact Nat.le_refl _ | (simp; done) | (simp; omega)) _ | refine Below.drew ?_ | refine Below.setCell ?_ (by first | exact Nat.le_refl _ | (simp; done) | (simp; omega)) _))
  have g0 : (w.alloc (.cells #[.int .i64 (W : Int), .slice a n cap] 25)).cell? ⟨w.heap.size, 0, none⟩ = some (.int .i64 (W : Int)) := by simp [go_sem]
  have g1 : (w.alloc (.cells #[.int .i64 (W : Int), .slice a n cap] 25)).cell? ⟨w.heap.size, 1, none⟩ = some (.slice a n cap) := by simp [go_sem]
  clear hH
  go_enter Try.func35, Try.ntmps35
  go_wp2
  obtain ⟨w0, hw0⟩ : ∃ w0, w0 = w.alloc (.cells #[.int .i64 (W : Int), .slice a n cap] 25) := ⟨_, rfl⟩
  rw [← hw0] at hb0 g0 g1 ⊢
  clear hw0
  go_region_held3 (fun w' => w'.cell? ⟨w.heap.size, 0, none⟩ = some (.int .i64 (W : Int)) ∧ w'.cell? ⟨w.heap.size, 1, none⟩ = some (.slice a n cap))
    (first
      | with_reducible exact ⟨keepc hb6 g0, keepc hb6 g1⟩
      | go_keep)
    (first
      | (go_at_call 41; refine (rowsS_any W H _ _ _ _ hW.1 hn HH.out).mono ?_; rintro e w6 ⟨rfl, hb6'⟩; have hb6 : Below w0.heap.size w0 w6 := (by first | with_reducible exact hb6' | with_reducible exact bdrew hb6'))
      | fail)
  have hBf := bcall hb0 hb0.size hb6
  go_wp2
  go_ret
  exact ⟨rfl, hBf⟩

end Go.Proofs.Ytjlnfcnmlloblaa

/-
  spec.l3Of: the sight at which light leaves a grid.
-/
namespace Go.Proofs.Ytjlnfcnmlloblaa
open Go.RowKit
set_option linter.unusedVariables false

theorem sRay_dir (W H k x d : Int) (h : sRay W H k = (x, d)) : 0 ≤ d ∧ d ≤ 3 := by
  unfold sRay at h
  split at h
  · simp only [Prod.mk.injEq] at h; omega
  · split at h
    · simp only [Prod.mk.injEq] at h; omega
    · split at h <;> (simp only [Prod.mk.injEq] at h; omega)
theorem ofN_hit (W H x d : Int) (k : Nat) (h0 : ofN W H x d k = -1) (x2 d2 : Int) (hs : sRay W H k = (x2, d2)) (h1 : x2 = x) (h2 : (d2 + 2) % 4 = d) (m : Nat) (hm : k < m) : ofN W H x d m = (k : Int) := by
  induction m with
  | zero => omega
  | succ m ih =>
    by_cases h : k < m
    · have e := ih h
      simp only [ofN]
      rw [if_pos (by rw [e]; omega), e]
    · obtain rfl : m = k := by omega
      simp only [ofN]
      rw [if_neg (by simp [h0]), if_pos (by rw [hs]; exact ⟨h1, h2⟩)]
theorem ofN_miss (W H x d : Int) (k : Nat) (h0 : ofN W H x d k = -1) (x2 d2 : Int) (hs : sRay W H k = (x2, d2)) (h : ¬ (x2 = x ∧ (d2 + 2) % 4 = d)) : ofN W H x d (k + 1) = -1 := by
  simp only [ofN]
  rw [if_neg (by simp [h0]), if_neg (by rw [hs]; exact h)]

end Go.Proofs.Ytjlnfcnmlloblaa
