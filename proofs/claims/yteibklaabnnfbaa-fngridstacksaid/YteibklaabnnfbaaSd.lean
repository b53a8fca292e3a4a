/-
  The text of a grid: impl.GridText.
-/
import Derived.Test.YteibklaabnnfbaaSc
import Derived.Test.YteibklaabnnfbaaGb
import Derived.Deep.RegionHeld3
namespace Go.Proofs.Yteibklaabnnfbaa
open Go.RowKit
set_option linter.unusedVariables false
attribute [local go_sem ↓] Go.wp_at_zero Go.wp_at_succ

theorem bytesV_snoc (l : List UInt8) (b : UInt8) : bytesV (l ++ [b]) = bytesV l ++ [.int .u8 (b.toNat : Int)] := by simp [bytesV]
theorem conv_own {w : World} {B g c : Nat} {l : List UInt8} (h : OwnB w B (.slice (some ⟨g, 0, none⟩) l.length c) l) : (convert 22 9 (.slice (some ⟨g, 0, none⟩) l.length c)).run Try.prog w = .ok (.string (str l)) w := by
  refine run_convert_bytes_back (P := Try.prog) w 22 9 5 ⟨g, 0, none⟩ c l Try.underlying22 Try.underlying5 Try.underlying9 (fun j hj => ?_)
  have hadd : (⟨g, 0, none⟩ : Addr).add j = ⟨g, 0 + j, none⟩ := by unfold Addr.add; split <;> simp_all
  rw [hadd, Nat.zero_add]
  have hO : w.ownsRow B 5 1 (.slice (some ⟨g, 0, none⟩) l.length c) l.length (bytesV l) := h
  rw [hO.cellAt _ (by omega)]
  simp [bytesV, hj]

theorem ownB_lt {w : World} {B g n c : Nat} {l : List UInt8} (h : OwnB w B (.slice (some ⟨g, 0, none⟩) n c) l) : B ≤ g ∧ g < w.heap.size := by
  rcases h.2 with ⟨hn, h0⟩ | ⟨g', cap, cur, hv, hB, hg, h1⟩
  · simp at hn
  · simp only [Value.slice.injEq, Option.some.injEq, Addr.mk.injEq, and_true] at hv
    obtain ⟨rfl, _⟩ := hv
    exact ⟨hB, (Array.getElem?_eq_some_iff.1 hg).1⟩
theorem ownB_snoc {w : World} {B n : Nat} {v : Value} {l : List UInt8} {b : UInt8} {x : Int} (h : w.ownsRow B 5 1 v (n + 1) (bytesV l ++ [.int .u8 x])) (hn : l.length = n) (hx : (b.toNat : Int) = x) : OwnB w B v (l ++ [b]) := by
  unfold OwnB
  rw [bytesV_snoc, List.length_append, hx, hn]
  exact h
theorem mod_last (k W : Nat) (hW : 1 ≤ W) : (k + 1) % W = 0 ↔ k % W = W - 1 := by
  have h1 := Nat.mod_lt k (show 0 < W by omega)
  rw [Nat.add_mod]
  rcases (show k % W = W - 1 ∨ k % W < W - 1 by omega) with e | e
  · rw [e]
    constructor
    · intro; rfl
    · intro
      rcases (show W = 1 ∨ 1 < W by omega) with rfl | h
      · simp
      · rw [Nat.mod_eq_of_lt h, show W - 1 + 1 = W by omega, Nat.mod_self]
  · rw [Nat.mod_eq_of_lt (show 1 < W by omega), Nat.mod_eq_of_lt (show k % W + 1 < W by omega)]
    omega

set_option maxHeartbeats 4000000 in
theorem implGridText_any (wd : Int) (a : Option Addr) (cap : Nat) (cs : List (Int × Int)) (w : World) (h : CellsAt w a cs) (hm : cs.length ≤ 1048576) :
    Calls Try.prog 11 #[.agg #[.int .i64 wd, .slice a cs.length cap]] w fun e w' => e = .returned (.string (str (textG wd cs))) ∧ Below w.heap.size w w' := by
  obtain ⟨i0, hi, iz0, iz1, iz2⟩ := info_parts infoByte
  have hbX : Below w.heap.size w (w.alloc (.cells #[.int .i64 wd, .slice a cs.length cap] 26)) := (by repeat (first | exact Below.refl _ _ | refine Below.alloc ?_ (by first | exact Nat.le_refl _ | (simp; done) | (simp; omega)) _ | refine Below.drew ?_ | refine Below.setCell ?_ (by first | exact Nat.le_refl _ | (simp; done) | (simp; omega)) _))
  have g0 : (w.alloc (.cells #[.int .i64 wd, .slice a cs.length cap] 26)).cell? ⟨w.heap.size, 0, none⟩ = some (.int .i64 wd) := by simp [go_sem]
  have g1 : (w.alloc (.cells #[.int .i64 wd, .slice a cs.length cap] 26)).cell? ⟨w.heap.size, 1, none⟩ = some (.slice a cs.length cap) := by simp [go_sem]
  by_cases hok : okG wd cs = true
  · obtain ⟨W, H, rfl, h1, h2, h3, h4, h5, h6, h7⟩ := okG_nat wd cs hok
    have h25 := okG_lenD _ _ hok
    have HK : Hid (∀ k (hk : k < cs.length), okC cs[k].1 cs[k].2 = true) := fun k hk => okG_cell _ _ hok k hk
    have HT : Hid (textG (W : Int) cs = textN W cs cs.length) := by show _ = _; simp [textG, hok]
    have hq7 : IntKind.i64.wrap ((cs.length : Int) / (W : Int)) = (H : Int) := by rw [h7]; exact IntWalk.i64_in _ (by omega)
    have HQ7 : Hid (IntKind.i64.wrap ((cs.length : Int) / (W : Int)) = (H : Int)) := hq7
    obtain ⟨M, hM⟩ : ∃ M : Nat, cs.length + H = M := ⟨_, rfl⟩
    have v0 : IntKind.i64.wrap ((cs.length : Int) + (H : Int)) = (M : Int) := by rw [← hM, Int.natCast_add]; exact IntWalk.i64_in _ (by omega)
    have hM2 : M ≤ 1048576 := by omega
    have hmk := make_zero M hM2
    clear h5 h6 h7 hq7 hM
    go_enter Try.func11, Try.ntmps11
    go_wp2_with fail
    refine (implGridOk_any _ _ _ cs _ (h.below hbX) (by omega)).mono ?_
    rintro e w1 ⟨rfl, hb1⟩
    replace g0 := keepc hb1 g0; replace g1 := keepc hb1 g1
    have hz1 := hb1.size
    simp at hz1
    replace h := (h.below hbX).below hb1
    have hB1 := bcall hbX (by simp) hb1
    clear hbX hb1
    rcases h with h | ⟨b, off, rfl, hbl, hcell⟩
    · rw [h] at h25; simp at h25
    have hw0 : ((W : Int) == 0) = false := by simp; omega
    go_wp2
    go_region_held3 (fun w' => w'.cell? ⟨w.heap.size, 0, none⟩ = some (.int .i64 (W : Int)) ∧ w'.cell? ⟨w.heap.size, 1, none⟩ = some (.slice (some ⟨b, off, none⟩) cs.length cap))
      (first
        | with_reducible exact ⟨keepc hb2 g0, keepc hb2 g1⟩
        | with_reducible exact ⟨keepc hb2M g0, keepc hb2M g1⟩
        | go_keep)
      (first
        | (go_at_call 24; refine (rows_any (W : Int) (H : Int) _ cs.length cap _ (by omega) hw0 HQ7.out (by omega)).mono ?_; rintro e w2 ⟨rfl, hb2'⟩; have hb2 : Below w1.heap.size w1 w2 := (by first | with_reducible exact hb2' | with_reducible exact bdrew hb2'); have hb2M : Below w1.heap.size w1 (w2.alloc (.cells (madeCells #[.int .u8 0] M) 5)) := bcall hb2 hb2.size ((Below.refl _ _).alloc (Nat.le_refl _) _)))
    have hz2 := hb2.size
    have hO2 := made_own M hM2 w2 w1.heap.size hz2
    obtain ⟨w3, hw3⟩ : ∃ w3, w3 = w2.alloc (.cells (madeCells #[.int .u8 0] M) 5) := ⟨_, rfl⟩
    rw [← hw3] at hb2M hO2 ⊢
    have gw0 := g0
    have gw1 := g1
    replace g0 := keepc hb2M g0; replace g1 := keepc hb2M g1
    clear hw3 hb2 hb2' hmk v0
    go_wp2
    go_loopw [3, 19] (fun s i wr => ∃ (k g c : Nat), k ≤ cs.length ∧ s = .slice (some ⟨g, 0, none⟩) (textN W cs k).length c ∧ i = .int .i64 k ∧ Below w1.heap.size w1 wr ∧ OwnB wr w1.heap.size (.slice (some ⟨g, 0, none⟩) (textN W cs k).length c) (textN W cs k)) (fun _ i _ => cs.length - (intOf i).toNat)
    case atStart => exact ⟨0, w2.heap.size, M, Nat.zero_le _, rfl, rfl, hb2M, hO2⟩
    case round =>
      obtain ⟨k, g, c, hk, rfl, rfl, hb, hO⟩ := hrel
      replace g0 := keepc hb gw0
      replace g1 := keepc hb gw1
      have hz := hb.size
      have hl := textN_len W cs k
      by_cases hlt : k < cs.length
      · obtain ⟨hx, hy⟩ := hcell k hlt
        rw [← hb.cell (p := ⟨b, _, none⟩) hbl] at hx hy
        have hkc := HK.out k hlt
        obtain ⟨kx, lx, hkl⟩ : ∃ kx lx : Int, cs.getD k (0, 0) = (kx, lx) := ⟨_, _, rfl⟩
        rw [show cs[k] = (kx, lx) by rw [← hkl]; simp [hlt]] at hkc
        rw [hkl] at hx hy
        have hi2 : (k : Int) < (cs.length : Int) := by omega
        have HQ : Hid (cs.getD k (0, 0) = (kx, lx)) := hkl
        clear hkl
        obtain ⟨L, t, hLt⟩ : ∃ L t, L = (textN W cs k).length ∧ t = textN W cs k := ⟨_, _, rfl, rfl⟩
        have hbQ : Below wr.heap.size wr (wr.alloc (.cells #[.int .i64 kx, .int .i64 lx] 44)) := (by repeat (first | exact Below.refl _ _ | refine Below.alloc ?_ (by first | exact Nat.le_refl _ | (simp; done) | (simp; omega)) _ | refine Below.drew ?_ | refine Below.setCell ?_ (by first | exact Nat.le_refl _ | (simp; done) | (simp; omega)) _))
        go_wp2_with fail
        refine (implSign_any kx lx _ hkc).mono ?_
        rintro e w4 ⟨rfl, hb4'⟩
        have hb4 := bcall hbQ hbQ.size hb4'
        have hz4 := hb4.size
        have hO4 := owns_below hO hb4
        have hB4 := bcall hb hz hb4
        have hgl := ownB_lt hO4
        replace g0 := keepc hb4 g0; replace g1 := keepc hb4 g1
        clear hbQ hb4' hb4 hO hx hy
        go_wp2_with (at_builtin; refine wpList_append_lies _ rfl _ _ _ rfl w1.heap.size 5 i0 (.int .u8 0) 1 1 Try.underlying22 hi iz0 iz1 iz2 rfl (by omega) (.slice (some ⟨g, 0, none⟩) (textN W cs k).length c) (textN W cs k).length (bytesV (textN W cs k)) rfl (owns_below hO4 ((Below.refl _ _).alloc (Nat.le_refl _) _)) ⟨w4.heap.size, 0, none⟩ 1 1 [.int .u8 (signC kx lx)] rfl rfl (World.news_of_block (cs := #[.int .u8 (signC kx lx)]) (t := 5) (fr := (0, 0)) (heap_alloc_new w4 _)) (by simp [Value.oneCell']) (by omega) (by unfold maxLen; omega) (by omega) (by simp; omega) (w4.heap.size + 1) (by simp) ?_)
        intro g5 c5 w5 hO5 hg5 hat5 hlt5
        have hB5 : Below w1.heap.size w1 w5 := (bcall hB4 (by omega) ((Below.refl _ _).alloc (Nat.le_refl _) _)).grown hg5 (by simp; omega) (fun k hk => by simp only [Value.ownBlock, Option.some.injEq] at hk; omega)
        have hz5 := hB5.size
        have hbV : Below w4.heap.size w4 (w4.alloc (.cells #[.int .u8 (signC kx lx)] 5)) := (by repeat (first | exact Below.refl _ _ | refine Below.alloc ?_ (by first | exact Nat.le_refl _ | (simp; done) | (simp; omega)) _ | refine Below.drew ?_ | refine Below.setCell ?_ (by first | exact Nat.le_refl _ | (simp; done) | (simp; omega)) _))
        replace g0 := keepc hB5 gw0
        replace g1 := keepc hB5 gw1
        clear hbV hg5 hat5
        have v1 : IntKind.i64.wrap ((W : Int) - 1) = (W : Int) - 1 := IntWalk.i64_in _ (by omega)
        have em : (k : Int) % (W : Int) = ((k % W : Nat) : Int) := by simp
        have hml := mod_last k W h1
        have hS : w5.ownsRow w1.heap.size 5 1 (.slice (some ⟨g5, 0, none⟩) ((textN W cs k).length + 1) c5) ((textN W cs k).length + 1) (bytesV (textN W cs k ++ [signB (kx, lx)])) := by
          rw [bytesV_snoc, signB_val kx lx hkc]; exact hO5
        have hS2 := ownB_snoc hO5 rfl (signB_val kx lx hkc)
        have hgl5 := ownB_lt hS2
        clear hO5 hO4
        by_cases hq : k % W = W - 1
        · have hq2 : (((k : Int) % (W : Int)) == (W : Int) - 1) = true := by rw [em, hq]; simp; omega
          have HE : Hid (textN W cs (k + 1) = textN W cs k ++ [signB (kx, lx)] ++ [10]) := by
            show _ = _
            simp only [textN, HQ.out, hml.2 hq, if_true]
            simp
          clear em hq hml
          go_wp2
          go_quiet (fail)
          obtain ⟨wz, hwz⟩ : ∃ x, x = w5.drewN nq := ⟨_, rfl⟩
          have hBz : Below w5.heap.size w5 wz := by rw [hwz]; exact ⟨rfl, rfl, rfl, Nat.le_refl _, fun _ _ => rfl⟩
          rw [← hwz]
          clear hwz
          replace hB5 := bcall hB5 hz5 hBz
          replace hS := owns_below hS hBz
          have hzz := hBz.size
          clear hBz
          go_wp2_with (at_builtin; refine wpList_append_lies _ rfl _ _ _ rfl w1.heap.size 5 i0 (.int .u8 0) 1 1 Try.underlying22 hi iz0 iz1 iz2 rfl (by omega) (.slice (some ⟨g5, 0, none⟩) ((textN W cs k).length + 1) c5) ((textN W cs k).length + 1) (bytesV (textN W cs k ++ [signB (kx, lx)])) rfl (owns_below hS ((Below.refl _ _).alloc (Nat.le_refl _) _)) ⟨wz.heap.size, 0, none⟩ 1 1 [.int .u8 10] rfl rfl (World.news_of_block (cs := #[.int .u8 10]) (t := 5) (fr := (0, 0)) (heap_alloc_new wz _)) (by simp [Value.oneCell']) (by omega) (by unfold maxLen; omega) (by omega) (by simp; omega) (wz.heap.size + 1) (by simp) ?_)
          intro g6 c6 w6 hO6 hg6 hat6 hlt6
          have hB6 : Below w1.heap.size w1 w6 := (bcall hB5 (by omega) ((Below.refl _ _).alloc (Nat.le_refl _) _)).grown hg6 (by simp; omega) (fun k hk => by simp only [Value.ownBlock, Option.some.injEq] at hk; omega)
          have hS6 := ownB_snoc (b := 10) hO6 (by simp) rfl
          go_wp2
          go_roundw
          case rel => exact ⟨k + 1, g6, c6, by omega, by rw [HE.out]; simp, by go_num, hB6, by rw [HE.out]; simpa using hS6⟩
          case measure => simp [intOf]; omega
        · have hq2 : (((k : Int) % (W : Int)) == (W : Int) - 1) = false := by rw [em]; simp; omega
          have HE : Hid (textN W cs (k + 1) = textN W cs k ++ [signB (kx, lx)]) := by
            show _ = _
            simp only [textN, HQ.out]
            rw [if_neg (fun x => hq (hml.1 x))]
          clear em hq hml
          go_wp2
          go_quiet (fail)
          go_wp2
          go_roundw
          case rel => exact ⟨k + 1, g5, c5, by omega, by rw [HE.out]; simp, by go_num, ⟨hB5.os, hB5.tape, hB5.output, hB5.size, hB5.block⟩, by rw [HE.out, List.length_append]; exact owns_below hS2 ⟨rfl, rfl, rfl, Nat.le_refl _, fun _ _ => rfl⟩⟩
          case measure => simp [intOf]; omega
      · have hbf := bcall hB1 (by omega) hb
        have HE : Hid (k = cs.length) := by show _ = _; omega
        have hcv := conv_own hO
        have hj : ¬ ((k : Int) < (cs.length : Int)) := by omega
        clear hk
        go_wp2
        go_ret
        exact ⟨by rw [HT.out, ← HE.out]; rfl, hbf⟩
  · have hno : okG wd cs = false := by simpa using hok
    have HT : Hid (textG wd cs = []) := by show _ = _; simp [textG, hno]
    clear hok
    go_enter Try.func11, Try.ntmps11
    go_wp2_with fail
    refine (implGridOk_any _ _ _ cs _ (h.below hbX) (by omega)).mono ?_
    rintro e w1 ⟨rfl, hb1⟩
    have hB1 := bcall hbX (by simp) hb1
    go_wp2
    go_ret
    exact ⟨by rw [HT.out]; rfl, hB1⟩

end Go.Proofs.Yteibklaabnnfbaa
