/-
  The contract of impl.lineOf.
-/
import Derived.Test.YtnochicpkcjjlaaDoorHb
import Derived.LoopN
import Derived.Deep.RegionHeld3
namespace Go.Proofs.YtnochicpkcjjlaaDoor
open Go.RowKit
set_option linter.unusedVariables false

set_option maxRecDepth 20000 in
set_option maxHeartbeats 4000000 in
theorem lineOf_any (a : Option Addr) (cap : Nat) (xs : List Int) (w : World) (h : R1At w a xs) (hm : xs.length ≤ 100) (hx : ∀ x ∈ xs, -9223372036854775808 ≤ x ∧ x ≤ 9223372036854775807) (ht : Tab w) :
    Calls Tryd.prog 23 #[.slice a xs.length cap] w fun e w' => e = .returned (.string (str (lineL xs))) ∧ Below w.heap.size w w' := by
  obtain ⟨i0, hi, iz0, iz1, iz2⟩ := info_parts infoStr
  have HX : Hid (∀ x ∈ xs, -9223372036854775808 ≤ x ∧ x ≤ 9223372036854775807) := hx
  have HT : Hid (Tab w) := ht
  have hmk := make_str xs.length (by omega)
  have hO := made_str xs.length (by omega) w w.heap.size (Nat.le_refl _)
  have hbM : Below w.heap.size w (w.alloc (.cells (madeCells #[.string ⟨#[]⟩] xs.length) 9)) := (by repeat (first | exact Below.refl _ _ | refine Below.alloc ?_ (by first | exact Nat.le_refl _ | (simp; done) | (simp; omega)) _ | refine Below.drew ?_ | refine Below.setCell ?_ (by first | exact Nat.le_refl _ | (simp; done) | (simp; omega)) _))
  clear hx ht
  go_enter Tryd.func23, Tryd.ntmps23
  go_wp2
  clear hmk
  obtain ⟨w1, hw1⟩ : ∃ w1, w1 = w.alloc (.cells (madeCells #[.string ⟨#[]⟩] xs.length) 9) := ⟨_, rfl⟩
  rw [← hw1] at hbM hO ⊢
  clear hw1
  go_loopw [3, 5, 11] (fun ww nn ii wr => ∃ (k g c : Nat), k ≤ xs.length ∧ ww = .slice (some ⟨g, 0, none⟩) k c ∧ ii = .int .i64 k ∧ Below w.heap.size w wr ∧ OwnS wr w.heap.size (.slice (some ⟨g, 0, none⟩) k c) ((xs.take k).map Lib.itoa)) (fun _ _ ii _ => xs.length - (intOf ii).toNat)
  case atStart => exact ⟨0, w.heap.size, xs.length, Nat.zero_le _, rfl, rfl, hbM, hO⟩
  case round =>
    rename World => wo
    obtain ⟨k, g, c, hk, rfl, rfl, hb, hO⟩ := hrel
    by_cases hlt : k < xs.length
    · obtain ⟨b, off, rfl, hbl, hc⟩ := (h.below hb).at hlt
      have hkI : (k : Int) < (xs.length : Int) := by omega
      have hmem : xs.getD k 0 ∈ xs := by simp [List.getElem?_eq_getElem hlt]
      have hxr := HX.out _ hmem
      have htk : (xs.take (k + 1)).map Lib.itoa = (xs.take k).map Lib.itoa ++ [Lib.itoa (xs.getD k 0)] := by rw [take_one xs k 0 hlt, List.map_append]; rfl
      obtain ⟨x, ex⟩ : ∃ x, xs.getD k 0 = x := ⟨_, rfl⟩
      rw [ex] at hc hxr htk
      have HTK : Hid ((xs.take (k + 1)).map Lib.itoa = (xs.take k).map Lib.itoa ++ [Lib.itoa x]) := htk
      have hll : ((xs.take k).map Lib.itoa).length = k := by simp; omega
      obtain ⟨L, hL⟩ : ∃ L, (xs.take k).map Lib.itoa = L := ⟨_, rfl⟩
      have HL : Hid ((xs.take k).map Lib.itoa = L) := hL
      rw [hL] at hO hll
      have hO' := hO
      unfold OwnS at hO'
      rw [hll] at hO'
      clear htk hmem ex hL
      go_wp2_with fail
      refine (itoa_st x hxr _ (HT.out.below (by first | exact hb | exact hb.drew))).mono ?_
      rintro e w2 ⟨rfl, hb2⟩
      have hO2 := ownsS_below hO' hb2
      have hB2 := bcall hb hb.size hb2
      have hz2 := hB2.size
      go_wp2_with (at_builtin; refine wpList_append_lies _ rfl _ _ _ rfl w.heap.size 9 i0 (.string ⟨#[]⟩) 1 16 Tryd.underlying67 hi iz0 iz1 iz2 rfl (by omega) _ k (strsV L) rfl (World.ownsRow.alloc hO2 _) ⟨w2.heap.size, 0, none⟩ 1 1 [.string (str (Lib.itoa x))] rfl rfl (World.news_of_block (cs := #[.string (str (Lib.itoa x))]) (t := 9) (fr := (0, 0)) (heap_alloc_new w2 _)) (by simp [Value.oneCell']) (by omega) (by unfold maxLen; omega) (by omega) (by simp; omega) (w2.heap.size + 1) (by simp) ?_)
      intro g6 k6 w6 hO6 hg6 hat6 hlt6
      have hown := fun k q => (World.ownsRow.lt hO2 k q).1
      have hB6 : Below w.heap.size w w6 := (bcall hB2 (by omega) ((Below.refl _ _).alloc (Nat.le_refl _) _)).grown hg6 (by simp; omega) (fun k hk => hown k hk)
      have hO7 : OwnS w6 w.heap.size (.slice (some ⟨g6, 0, none⟩) (k + 1) k6) (L ++ [Lib.itoa x]) := by
        unfold OwnS
        rw [show (L ++ [Lib.itoa x]).length = k + 1 by simp [hll], show strsV (L ++ [Lib.itoa x]) = strsV L ++ [.string (str (Lib.itoa x))] by simp [strsV]]
        exact hO6
      clear hO6 hg6 hat6 hO' hO2 hown hb hb2 hB2
      go_wp2_with fail
      go_roundw
      case rel => exact ⟨k + 1, g6, k6, by omega, by first | rfl | go_num, by go_num, hB6, by rw [HTK.out, HL.out]; exact hO7⟩
      case measure => simp [intOf]; omega
    · have hfin : k = xs.length := by omega
      have hL : (xs.take k).map Lib.itoa = xs.map Lib.itoa := by rw [hfin, List.take_of_length_le (Nat.le_refl _)]
      rw [hL] at hO
      clear hL
      subst hfin
      have hjl := join_len (xs.map Lib.itoa) (fun y hy => by
        obtain ⟨z, hz, rfl⟩ := List.mem_map.1 hy
        exact Lib.itoa_length_le z (HX.out z hz).1 (HX.out z hz).2)
      simp only [List.length_map] at hjl
      have hJ : Calls Tryd.prog 41 #[.slice (some ⟨g, 0, none⟩) xs.length c, .string ⟨#[32]⟩] wo fun e w' => e = .returned (.string (str (Lib.join (xs.map Lib.itoa) [32]))) ∧ Below wo.heap.size wo w' := by
        have hO' := hO
        unfold OwnS at hO'
        simp only [List.length_map] at hO'
        have q := Tryd.strings_Join g 0 c ((xs.map Lib.itoa).map str) ⟨#[32]⟩ wo (fun j x hj => by
          have hjl : j < xs.length := by
            have := (List.getElem?_eq_some_iff.1 hj).1
            simpa using this
          rw [Nat.zero_add, hO'.cellAt j (by omega)]
          simp only [List.getElem?_map, List.getElem?_eq_getElem hjl, Option.map_some, Option.some.injEq] at hj
          simp [strsV, List.getElem?_eq_getElem hjl, ← hj]) (by have := (hO'.lt g rfl).2; exact this) (by simp; omega) (by simp; exact own_capS hO') (by rw [unstr]; exact Nat.le_trans hjl (by omega))
        rw [unstr] at q
        simp only [List.length_map] at q
        exact q
      obtain ⟨J, eJ⟩ : ∃ J, Lib.join (xs.map Lib.itoa) [32] = J := ⟨_, rfl⟩
      have HJ : Hid (lineL xs = J ++ [10]) := by show _ = _; unfold lineL; rw [eJ]
      rw [eJ] at hJ hjl
      have hs1 : (str J).size + (ByteArray.mk #[10]).size ≤ 9223372036854775807 := by rw [str_size]; simp [ByteArray.size]; omega
      have HF : Hid (str J ++ ByteArray.mk #[10] = str (lineL xs)) := by show _ = _; rw [HJ.out, show ByteArray.mk #[10] = str [10] from rfl, str_append]
      have hkI : ¬ (xs.length : Int) < (xs.length : Int) := by omega
      clear eJ hjl hO
      go_wp2_with fail
      refine hJ.mono ?_
      rintro e w3 ⟨rfl, hb3⟩
      go_wp2
      go_ret
      exact ⟨by rw [HF.out]; rfl, bcall hb hb.size hb3⟩
end Go.Proofs.YtnochicpkcjjlaaDoor
