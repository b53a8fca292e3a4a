/-
  Numbers in decimals: spec.l6Dec says what the library's Itoa says.
-/
import Derived.Test.YtnochicpkcjjlaaDoorSt
import Derived.Deep.RegionHeld3
import Derived.Deep.RegionWith
import Derived.Lib.ItoaLen
namespace Go.Proofs.YtnochicpkcjjlaaDoor
open Go.RowKit
set_option linter.unusedVariables false

theorem dig_val (u : Nat) (h : u < 10) : (((UInt8.ofNat (48 + u)).toNat : Nat) : Int) = 48 + (u : Int) := by
  simp only [UInt8.toNat_ofNat']
  omega

set_option maxRecDepth 20000 in
set_option maxHeartbeats 4000000 in
theorem dec_nat (u : Nat) : u ≤ 9223372036854775807 → ∀ w, Calls Tryd.prog 25 #[.int .i64 (u : Int)] w fun e w' => e = .returned (.string (str (Lib.decDigits u))) ∧ Below w.heap.size w w' := by
  induction u using Nat.strongRecOn with
  | _ u ih =>
  intro hu w
  have c0 : decide ((u : Int) < -9223372036854775807) = false := decide_eq_false (by omega)
  have c1 : decide ((u : Int) < 0) = false := decide_eq_false (by omega)
  by_cases h : u < 10
  · have c2 : decide ((u : Int) < 10) = true := decide_eq_true (by omega)
    have v1 : IntKind.i64.wrap (48 + (u : Int)) = 48 + (u : Int) := IntWalk.i64_in _ (by omega)
    have v2 : IntKind.u8.wrap (48 + (u : Int)) = 48 + (u : Int) := IntWalk.u8_in _ (by omega)
    obtain ⟨bb, hbb⟩ : ∃ bb, UInt8.ofNat (48 + u) = bb := ⟨_, rfl⟩
    have hv := dig_val u h
    have hd := Lib.decDigits_one h
    rw [hbb] at hv hd
    have hcv := conv_one w bb
    rw [hv] at hcv
    clear ih hu h hbb hv
    go_enter Tryd.func25, Tryd.ntmps25
    go_wp2
    go_ret
    exact ⟨by rw [hd]; rfl, (by repeat (first | exact Below.refl _ _ | refine Below.alloc ?_ (by first | exact Nat.le_refl _ | (simp; done) | (simp; omega)) _ | refine Below.drew ?_ | refine Below.setCell ?_ (by first | exact Nat.le_refl _ | (simp; done) | (simp; omega)) _))⟩
  · have c2 : decide ((u : Int) < 10) = false := decide_eq_false (by omega)
    obtain ⟨q, hq⟩ : ∃ q, u / 10 = q := ⟨_, rfl⟩
    obtain ⟨r, hr⟩ : ∃ r, u % 10 = r := ⟨_, rfl⟩
    have hr10 : r < 10 := by omega
    have e1 : ((u : Int)).tdiv 10 = (q : Int) := by rw [Int.tdiv_eq_ediv_of_nonneg (by omega)]; omega
    have e2 : ((u : Int)).tmod 10 = (r : Int) := by rw [Int.tmod_eq_emod_of_nonneg (by omega)]; omega
    have e3 : IntKind.i64.wrap (q : Int) = (q : Int) := IntWalk.i64_in _ (by omega)
    have e4 : IntKind.i64.wrap (r : Int) = (r : Int) := IntWalk.i64_in _ (by omega)
    have v1 : IntKind.i64.wrap (48 + (r : Int)) = 48 + (r : Int) := IntWalk.i64_in _ (by omega)
    have v2 : IntKind.u8.wrap (48 + (r : Int)) = 48 + (r : Int) := IntWalk.u8_in _ (by omega)
    obtain ⟨bb, hbb⟩ : ∃ bb, UInt8.ofNat (48 + r) = bb := ⟨_, rfl⟩
    have hd : Lib.decDigits u = Lib.decDigits q ++ [bb] := by rw [Lib.decDigits, dif_neg h, hq, hr, hbb]
    have HD : Hid (str (Lib.decDigits q) ++ str [bb] = str (Lib.decDigits u)) := by show _ = _; rw [str_append, hd]
    have hv := dig_val r hr10
    rw [hbb] at hv
    have IH := ih q (by omega) (by omega)
    have hca := fun (w' : World) (blk : Nat) => conv_at w' bb blk
    rw [hv] at hca
    have hbX : Below w.heap.size w (w.alloc (.cells #[.int .u8 (48 + (r : Int))] 5)) := (by repeat (first | exact Below.refl _ _ | refine Below.alloc ?_ (by first | exact Nat.le_refl _ | (simp; done) | (simp; omega)) _ | refine Below.drew ?_ | refine Below.setCell ?_ (by first | exact Nat.le_refl _ | (simp; done) | (simp; omega)) _))
    have z0 : (w.alloc (.cells #[.int .u8 (48 + (r : Int))] 5)).cell? ⟨w.heap.size, 0, none⟩ = some (.int .u8 (48 + (r : Int))) := by simp [go_sem]
    have hc0 := hca _ _ z0
    have hl : (Lib.decDigits q).length ≤ 20 := by rw [Lib.decDigits_length]; exact Lib.nDigits_le20 q (by omega)
    have hs1 : (str (Lib.decDigits q)).size + (str [bb]).size ≤ 9223372036854775807 := by rw [str_size, str_size]; simp; omega
    clear ih hu h hq hr hr10 hd hl hbb hv
    go_enter Tryd.func25, Tryd.ntmps25
    go_wp2
    go_region_with
      (first
        | (go_at_call 25; refine (IH w).mono ?_; rintro e w2 ⟨rfl, hb2⟩; have hc2 := hca _ _ (show (w2.alloc (.cells #[.int .u8 (48 + (r : Int))] 5)).cell? ⟨w2.heap.size, 0, none⟩ = some (.int .u8 (48 + (r : Int))) by simp [go_sem]); have hbF : Below w.heap.size w (w2.alloc (.cells #[.int .u8 (48 + (r : Int))] 5)) := bcall hb2 hb2.size ((Below.refl _ _).alloc (Nat.le_refl _) _))
        | (go_at_call 25; refine (IH w.drew).mono ?_; rintro e w2 ⟨rfl, hb2'⟩; have hb2 : Below w.heap.size w w2 := bdrew hb2'; have hc2 := hca _ _ (show (w2.alloc (.cells #[.int .u8 (48 + (r : Int))] 5)).cell? ⟨w2.heap.size, 0, none⟩ = some (.int .u8 (48 + (r : Int))) by simp [go_sem]); have hbF : Below w.heap.size w (w2.alloc (.cells #[.int .u8 (48 + (r : Int))] 5)) := bcall hb2 hb2.size ((Below.refl _ _).alloc (Nat.le_refl _) _))
        | (go_at_call 25; refine (IH _).mono ?_; rintro e w2 ⟨rfl, hb2'⟩; have hb3 : Below (w.alloc (.cells #[.int .u8 (48 + (r : Int))] 5)).heap.size (w.alloc (.cells #[.int .u8 (48 + (r : Int))] 5)) w2 := (by first | exact hb2' | exact bdrew hb2'); have hc2 := hca _ _ (keepc hb3 z0); have hbF : Below w.heap.size w w2 := bcall hbX hbX.size hb3)
        | fail)
    all_goals
      go_wp2_with fail
      go_ret
      exact ⟨by rw [HD.out]; rfl, by first | exact hbF | exact hbF.drew⟩
set_option maxRecDepth 20000 in
theorem dec_any (n : Int) (h0 : -9223372036854775808 ≤ n) (h1 : n ≤ 9223372036854775807) (w : World) : Calls Tryd.prog 25 #[.int .i64 n] w fun e w' => e = .returned (.string (str (Lib.itoa n))) ∧ Below w.heap.size w w' := by
  by_cases hn : 0 ≤ n
  · obtain ⟨u, rfl⟩ := Int.eq_ofNat_of_zero_le hn
    rw [Lib.itoa_nonneg]
    exact dec_nat u (by omega) w
  · by_cases hm : n < -9223372036854775807
    · have e : n = -9223372036854775808 := by omega
      subst e
      go_enter Tryd.func25, Tryd.ntmps25
      go_wp2
      go_ret
      exact ⟨by kernel_rfl, (by repeat (first | exact Below.refl _ _ | refine Below.alloc ?_ (by first | exact Nat.le_refl _ | (simp; done) | (simp; omega)) _ | refine Below.drew ?_ | refine Below.setCell ?_ (by first | exact Nat.le_refl _ | (simp; done) | (simp; omega)) _))⟩
    · obtain ⟨u, hu⟩ : ∃ u : Nat, -n = (u : Int) := ⟨n.natAbs, by omega⟩
      have c0 : decide (n < -9223372036854775807) = false := decide_eq_false hm
      have c1 : decide (n < 0) = true := decide_eq_true (by omega)
      have e1 : IntKind.i64.wrap (-n) = (u : Int) := by rw [hu]; exact IntWalk.i64_in _ (by omega)
      have hl : (Lib.decDigits u).length ≤ 20 := by rw [Lib.decDigits_length]; exact Lib.nDigits_le20 u (by omega)
      have hs1 : (ByteArray.mk #[45]).size + (str (Lib.decDigits u)).size ≤ 9223372036854775807 := by rw [str_size]; simp [ByteArray.size]; omega
      have HD : Hid (ByteArray.mk #[45] ++ str (Lib.decDigits u) = str (Lib.itoa n)) := by show _ = _; rw [show n = -(u : Int) by omega, Lib.itoa_neg u (by omega), show ByteArray.mk #[45] = str [45] from rfl, str_append]; rfl
      have hD := dec_nat u (by omega)
      clear hn h0 h1 hm hl hu
      go_enter Tryd.func25, Tryd.ntmps25
      go_wp2_with fail
      refine (hD _).mono ?_
      rintro e w2 ⟨rfl, hb2⟩
      go_wp2
      go_ret
      exact ⟨by rw [HD.out]; rfl, hb2⟩
end Go.Proofs.YtnochicpkcjjlaaDoor
