/-
  impl.PicText: what is gone by side by side in it, and its contract.
-/
import Derived.Test.YtnochicpkcjjlaaDoorHd
import Derived.Test.YtnochicpkcjjlaaDoorJh
import Derived.LoopN
namespace Go.Proofs.YtnochicpkcjjlaaDoor
open Go.RowKit
set_option linter.unusedVariables false

theorem tellText_int (V0 V : ByteArray) (t : List UInt8) (hV0 : V0 = str t) (fi mi : Int) (f m : Nat) (ef : fi = (f : Int)) (em : mi = (m : Int)) (s o i u : Int) (pb b off cap : Nat) (xs : List Int) (w : World) (hp : w.cell? ⟨pb, 0, none⟩ = some (.slice (some ⟨b, off, none⟩) xs.length cap)) (hR : R1At w (some ⟨b, off, none⟩) xs)
    (hfm : f + m ≤ xs.length) (hm1 : 1 ≤ m) (hl : xs.length ≤ 20) (hcap : xs.length ≤ cap) (hx : ∀ x ∈ xs, -9223372036854775808 ≤ x ∧ x ≤ 9223372036854775807) (ht : Tab w) (htl : t.length ≤ 10000) (hV : V = str (t ++ lineL ((xs.drop f).take m))) :
    Calls Tryd.prog 22 #[.string V0, .agg #[.int .i64 fi, .int .i64 mi, .int .i64 s, .int .i64 o, .int .i64 i, .int .i64 u], .pointer (some ⟨pb, 0, none⟩)] w fun e w' => e = .returned (.string V) ∧ Below w.heap.size w w' := by
  subst hV0 ef em hV
  exact tellText_any t f m s o i u pb b off cap xs w hp hR hfm hm1 hl hcap hx ht htl

/-- The text of a picture, side by side. -/
def picL (W H : Nat) (xs : List Int) : List UInt8 := lineL (xs.take W) ++ lineL ((xs.drop W).take H) ++ lineL ((xs.drop (W + H)).take W) ++ lineL ((xs.drop (W + H + W)).take H)
theorem line_len (xs : List Int) (hx : ∀ x ∈ xs, -9223372036854775808 ≤ x ∧ x ≤ 9223372036854775807) (hl : xs.length ≤ 20) : (lineL xs).length ≤ 441 := by
  unfold lineL
  have q := join_len (xs.map Lib.itoa) (fun y hy => by
        obtain ⟨z, hz, rfl⟩ := List.mem_map.1 hy
        exact Lib.itoa_length_le z (hx z hz).1 (hx z hz).2)
  simp only [List.length_map] at q
  simp
  omega
theorem in_sub {xs : List Int} {f m : Nat} (hx : ∀ x ∈ xs, -9223372036854775808 ≤ x ∧ x ≤ 9223372036854775807) : ∀ x ∈ (xs.drop f).take m, -9223372036854775808 ≤ x ∧ x ≤ 9223372036854775807 := fun x hx' => hx x (List.mem_of_mem_drop (List.mem_of_mem_take hx'))
theorem sub_len {xs : List Int} {f m : Nat} (hl : xs.length ≤ 20) : ((xs.drop f).take m).length ≤ 20 := by simp; omega

set_option maxRecDepth 20000 in
set_option maxHeartbeats 2000000 in
theorem goText_ok (W H : Nat) (a : Option Addr) (cap : Nat) (cs : List (Int × Int)) (w : World) (h : CellsAt w a cs) (hok : okG (W : Int) cs = true) (hW : 1 ≤ W ∧ W ≤ 5) (hH5 : 1 ≤ H ∧ H ≤ 5) (hn : cs.length ≤ 25) (hH : cs.length / W = H)
    (pb b off pc : Nat) (xs : List Int) (hp : w.cell? ⟨pb, 0, none⟩ = some (.slice (some ⟨b, off, none⟩) xs.length pc)) (hR : R1At w (some ⟨b, off, none⟩) xs) (hl : xs.length = W + H + W + H) (hcap : xs.length ≤ pc) (hx : ∀ x ∈ xs, -9223372036854775808 ≤ x ∧ x ≤ 9223372036854775807) (ht : Tab w) :
    Calls Tryd.prog 21 #[.agg #[.int .i64 (W : Int), .slice a cs.length cap], .string ⟨#[]⟩, .func (.func 22) #[] #[.pointer (some ⟨pb, 0, none⟩)]] w fun e w' => e = .returned (.string (str (picL W H xs))) ∧ Below w.heap.size w w' := by
  have HH : Hid (cs.length / W = H) := hH
  have hWa := hW.1
  have hWb := hW.2
  have hHa := hH5.1
  have hHb := hH5.2
  have HX : Hid (∀ x ∈ xs, -9223372036854775808 ≤ x ∧ x ≤ 9223372036854775807) := hx
  have HT : Hid (Tab w) := ht
  have hl20 : xs.length ≤ 20 := by omega
  obtain ⟨t1, e1⟩ : ∃ t, t = [] ++ lineL ((xs.drop 0).take W) := ⟨_, rfl⟩
  obtain ⟨t2, e2⟩ : ∃ t, t = t1 ++ lineL ((xs.drop W).take H) := ⟨_, rfl⟩
  obtain ⟨t3, e3⟩ : ∃ t, t = t2 ++ lineL ((xs.drop (W + H)).take W) := ⟨_, rfl⟩
  obtain ⟨t4, e4⟩ : ∃ t, t = t3 ++ lineL ((xs.drop (W + H + W)).take H) := ⟨_, rfl⟩
  have q1 : t1.length ≤ 441 := by
    rw [e1, List.nil_append]
    exact line_len _ (in_sub hx) (sub_len hl20)
  have q2 : t2.length ≤ 882 := by
    have := line_len _ (in_sub (f := W) (m := H) hx) (sub_len hl20)
    rw [e2, List.length_append]; omega
  have q3 : t3.length ≤ 1323 := by
    have := line_len _ (in_sub (f := W + H) (m := W) hx) (sub_len hl20)
    rw [e3, List.length_append]; omega
  have e5 : str (picL W H xs) = str t4 := by rw [e4, e3, e2, e1]; simp [picL]
  rw [e5]
  have E1 : Hid (str t1 = str ([] ++ lineL ((xs.drop 0).take W))) := by rw [← e1]; rfl
  have E2 : Hid (str t2 = str (t1 ++ lineL ((xs.drop W).take H))) := by rw [← e2]; rfl
  have E3 : Hid (str t3 = str (t2 ++ lineL ((xs.drop (W + H)).take W))) := by rw [← e3]; rfl
  have E4 : Hid (str t4 = str (t3 ++ lineL ((xs.drop (W + H + W)).take H))) := by rw [← e4]; rfl
  clear e1 e2 e3 e4 e5 hH hx ht
  go_enter Tryd.func21, Tryd.ntmps21
  go_wp2_with fail
  refine (implGridOk_any _ _ _ cs _ (h.below (by repeat (first | exact Below.refl _ _ | refine Below.alloc ?_ (by first | exact Nat.le_refl _ | (simp; done) | (simp; omega)) _ | refine Below.drew ?_ | refine Below.setCell ?_ (by first | exact Nat.le_refl _ | (simp; done) | (simp; omega)) _))) (by omega)).mono ?_
  rintro e x0 ⟨rfl, hb0⟩
  have g0 : x0.cell? ⟨w.heap.size, 0, none⟩ = some (.int .i64 (W : Int)) := keepc hb0 (by simp [go_sem])
  have g1 : x0.cell? ⟨w.heap.size, 1, none⟩ = some (.slice a cs.length cap) := keepc hb0 (by simp [go_sem])
  have hz0 := hb0.size
  simp at hz0
  have hB0 : Below w.heap.size w x0 := bcall (by repeat (first | exact Below.refl _ _ | refine Below.alloc ?_ (by first | exact Nat.le_refl _ | (simp; done) | (simp; omega)) _ | refine Below.drew ?_ | refine Below.setCell ?_ (by first | exact Nat.le_refl _ | (simp; done) | (simp; omega)) _)) (by simp) hb0
  clear hb0
  go_wp2_with fail
  refine (sidesOf_any W H a cs.length cap _ hW hH5 hn HH.out).mono ?_
  rintro e x1 ⟨rfl, hb1⟩
  have hz1 := hb1.size
  have hB1 : Below w.heap.size w x1 := bcall hB0 (by omega) hb1
  clear hb1 g0 g1 HH hok h hW hH5
  have i0 := idxSide0 (W : Int) (H : Int) (cs.length : Int)
  have i1 := idxSide1 (W : Int) (H : Int) (cs.length : Int)
  have i2 := idxSide2 (W : Int) (H : Int) (cs.length : Int)
  have i3 := idxSide3 (W : Int) (H : Int) (cs.length : Int)
  go_wp2_with fail
  refine wp_loop_rounds 5 ?_
  rw [rounds_succ]
  go_wp2_with fail
  refine (tellText_int _ (str t1) [] rfl _ _ 0 W (by omega) (by omega) _ _ _ _ pb b off pc xs _ ((hB1.alloc (by omega) _).cell (World.block_lt_of_cell? w _ hp) |>.trans hp) (hR.below (hB1.alloc (by omega) _)) (by omega) (by omega) hl20 hcap HX.out (HT.out.below (hB1.alloc (by omega) _)) (by first | omega | (simp; done)) E1.out).mono ?_
  rintro e x2 ⟨rfl, hc2⟩
  have hz2 := hc2.size
  simp at hz2
  have hB2 : Below w.heap.size w x2 := bcall (hB1.alloc (by omega) _) (by simp; omega) hc2
  clear hc2
  go_wp2_with fail
  rw [rounds_succ]
  go_wp2_with fail
  refine (tellText_int _ (str t2) t1 rfl _ _ W H (by omega) (by omega) _ _ _ _ pb b off pc xs _ ((hB2.alloc (by omega) _).cell (World.block_lt_of_cell? w _ hp) |>.trans hp) (hR.below (hB2.alloc (by omega) _)) (by omega) (by omega) hl20 hcap HX.out (HT.out.below (hB2.alloc (by omega) _)) (by first | omega | (simp; done)) E2.out).mono ?_
  rintro e x3 ⟨rfl, hc3⟩
  have hz3 := hc3.size
  simp at hz3
  have hB3 : Below w.heap.size w x3 := bcall (hB2.alloc (by omega) _) (by simp; omega) hc3
  clear hc3
  go_wp2_with fail
  rw [rounds_succ]
  go_wp2_with fail
  refine (tellText_int _ (str t3) t2 rfl _ _ (W + H) W (by omega) (by omega) _ _ _ _ pb b off pc xs _ ((hB3.alloc (by omega) _).cell (World.block_lt_of_cell? w _ hp) |>.trans hp) (hR.below (hB3.alloc (by omega) _)) (by omega) (by omega) hl20 hcap HX.out (HT.out.below (hB3.alloc (by omega) _)) (by first | omega | (simp; done)) E3.out).mono ?_
  rintro e x4 ⟨rfl, hc4⟩
  have hz4 := hc4.size
  simp at hz4
  have hB4 : Below w.heap.size w x4 := bcall (hB3.alloc (by omega) _) (by simp; omega) hc4
  clear hc4
  go_wp2_with fail
  rw [rounds_succ]
  go_wp2_with fail
  refine (tellText_int _ (str t4) t3 rfl _ _ (W + H + W) H (by omega) (by omega) _ _ _ _ pb b off pc xs _ ((hB4.alloc (by omega) _).cell (World.block_lt_of_cell? w _ hp) |>.trans hp) (hR.below (hB4.alloc (by omega) _)) (by omega) (by omega) hl20 hcap HX.out (HT.out.below (hB4.alloc (by omega) _)) (by first | omega | (simp; done)) E4.out).mono ?_
  rintro e x5 ⟨rfl, hc5⟩
  have hz5 := hc5.size
  simp at hz5
  have hB5 : Below w.heap.size w x5 := bcall (hB4.alloc (by omega) _) (by simp; omega) hc5
  clear hc5
  go_wp2_with fail
  rw [rounds_succ]
  go_wp2_with fail
  go_ret
  exact ⟨rfl, hB5⟩
end Go.Proofs.YtnochicpkcjjlaaDoor
