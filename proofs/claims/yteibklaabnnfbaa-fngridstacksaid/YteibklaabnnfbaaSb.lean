/-
  The text of a grid: spec.GridText.
-/
import Derived.Test.YteibklaabnnfbaaSa
import Derived.Test.YteibklaabnnfbaaNa
import Derived.Test.YteibklaabnnfbaaGb
import Derived.Test.YteibklaabnnfbaaDe
import Derived.Laws.IdiomStrings
namespace Go.Proofs.Yteibklaabnnfbaa
open Go.RowKit
set_option linter.unusedVariables false
attribute [local go_sem ↓] Go.wp_at_zero Go.wp_at_succ

/-- Bytes as a string of Go. -/
def str (l : List UInt8) : ByteArray := ⟨l.toArray⟩
theorem str_append (x y : List UInt8) : str x ++ str y = str (x ++ y) := by
  apply ByteArray.ext
  simp [str]
theorem str_size (x : List UInt8) : (str x).size = x.length := by simp [str, ByteArray.size]
theorem str_inj (x y : List UInt8) : str x = str y ↔ x = y := by
  constructor
  · intro h
    simp only [str, ByteArray.mk.injEq] at h
    simpa using h
  · intro h; rw [h]

def signB (c : Int × Int) : UInt8 := UInt8.ofNat (signC c.1 c.2).toNat
theorem signC_range (k l : Int) (h : okC k l = true) : 0 ≤ signC k l ∧ signC k l ≤ 255 := by
  rcases okC_cases k l h with ⟨rfl, h1, h2⟩ | ⟨rfl, rfl | rfl | rfl | rfl | rfl | rfl | rfl⟩ <;> simp [signC] <;> omega
theorem signB_val (k l : Int) (h : okC k l = true) : ((signB (k, l)).toNat : Int) = signC k l := by
  have := signC_range k l h
  simp only [signB, UInt8.toNat_ofNat']
  omega

/-- The signs of the first cells, a new line behind each whole row. -/
def textN (W : Nat) (cs : List (Int × Int)) : Nat → List UInt8
  | 0 => []
  | n + 1 => textN W cs n ++ (signB (cs.getD n (0, 0)) :: if (n + 1) % W = 0 then [10] else [])
def textG (wd : Int) (cs : List (Int × Int)) : List UInt8 := if okG wd cs then textN wd.toNat cs cs.length else []
theorem textN_len (W : Nat) (cs : List (Int × Int)) (n : Nat) : (textN W cs n).length ≤ 2 * n := by
  induction n with
  | zero => simp [textN]
  | succ n ih =>
    simp only [textN, List.length_append, List.length_cons]
    split <;> simp <;> omega

theorem conv_one (w : World) (b : UInt8) : (convert 22 9 (.slice (some ⟨w.heap.size, 0, none⟩) 1 1)).run Try.prog (w.alloc (.cells #[.int .u8 (b.toNat : Int)] 5)) = .ok (.string (str [b])) (w.alloc (.cells #[.int .u8 (b.toNat : Int)] 5)) := by
  have := run_convert_bytes_back (P := Try.prog) (w.alloc (.cells #[.int .u8 (b.toNat : Int)] 5)) 22 9 5 ⟨w.heap.size, 0, none⟩ 1 [b] Try.underlying22 Try.underlying5 Try.underlying9
    (fun j hj => by
      have : j = 0 := by simpa using hj
      subst this
      simp [go_sem])
  exact this

set_option maxHeartbeats 2000000 in
theorem specGridText_any (wd : Int) (a : Option Addr) (cap : Nat) (cs : List (Int × Int)) (w : World) (h : CellsAt w a cs) (hm : cs.length ≤ 1048576) :
    Calls Try.prog 13 #[.agg #[.int .i64 wd, .slice a cs.length cap]] w fun e w' => e = .returned (.string (str (textG wd cs))) ∧ Below w.heap.size w w' := by
  have hbX : Below w.heap.size w (w.alloc (.cells #[.int .i64 wd, .slice a cs.length cap] 26)) := (by repeat (first | exact Below.refl _ _ | refine Below.alloc ?_ (by first | exact Nat.le_refl _ | (simp; done) | (simp; omega)) _ | refine Below.drew ?_ | refine Below.setCell ?_ (by first | exact Nat.le_refl _ | (simp; done) | (simp; omega)) _))
  have g0 : (w.alloc (.cells #[.int .i64 wd, .slice a cs.length cap] 26)).cell? ⟨w.heap.size, 0, none⟩ = some (.int .i64 wd) := by simp [go_sem]
  have g1 : (w.alloc (.cells #[.int .i64 wd, .slice a cs.length cap] 26)).cell? ⟨w.heap.size, 1, none⟩ = some (.slice a cs.length cap) := by simp [go_sem]
  by_cases hok : okG wd cs = true
  · obtain ⟨W, H, rfl, h1, h2, h3, h4, h5, h6, h7⟩ := okG_nat wd cs hok
    have h25 := okG_lenD _ _ hok
    have HK : Hid (∀ k (hk : k < cs.length), okC cs[k].1 cs[k].2 = true) := fun k hk => okG_cell _ _ hok k hk
    have HT : Hid (textG (W : Int) cs = textN W cs cs.length) := by show _ = _; simp [textG, hok]
    clear h5 h6 h7
    go_enter Try.func13, Try.ntmps13
    go_wp2_with fail
    refine (specGridOk_any _ _ _ cs _ (h.below hbX) (by omega)).mono ?_
    rintro e w1 ⟨rfl, hb1⟩
    replace g0 := keepc hb1 g0; replace g1 := keepc hb1 g1
    have hz1 := hb1.size
    simp at hz1
    replace h := (h.below hbX).below hb1
    have hB1 := bcall hbX (by simp) hb1
    clear hbX hb1
    rcases h with h | ⟨b, off, rfl, hbl, hcell⟩
    · rw [h] at h25; simp at h25
    have hw0 : ((W : Int) == 0) = false := by simp; omega
    go_wp2
    go_loopw [3, 4] (fun s i wr => ∃ k : Nat, k ≤ cs.length ∧ s = .string (str (textN W cs k)) ∧ i = .int .i64 k ∧ Below w1.heap.size w1 wr) (fun _ i _ => cs.length - (intOf i).toNat)
    case atStart => exact ⟨0, Nat.zero_le _, rfl, rfl, Below.refl _ _⟩
    case round =>
      obtain ⟨k, hk, rfl, rfl, hb⟩ := hrel
      replace g0 := keepc hb g0; replace g1 := keepc hb g1
      have hz := hb.size
      by_cases hlt : k < cs.length
      · obtain ⟨hx, hy⟩ := hcell k hlt
        rw [← hb.cell (p := ⟨b, _, none⟩) hbl] at hx hy
        have hkc := HK.out k hlt
        obtain ⟨kx, lx, hkl⟩ : ∃ kx lx : Int, cs.getD k (0, 0) = (kx, lx) := ⟨_, _, rfl⟩
        rw [show cs[k] = (kx, lx) by rw [← hkl]; simp [hlt]] at hkc
        rw [hkl] at hx hy
        have hi : (k : Int) < (cs.length : Int) := by omega
        have HQ : Hid (cs.getD k (0, 0) = (kx, lx)) := hkl
        clear hkl
        go_wp2_with fail
        refine (specSign_any kx lx _ hkc).mono ?_
        rintro e w2 ⟨rfl, hb2⟩
        have hz2 := hb2.size
        replace g0 := keepc hb2 g0; replace g1 := keepc hb2 g1
        have hB2 := bcall hb (by omega) hb2
        have hbV : Below w2.heap.size w2 (w2.alloc (.cells #[.int .u8 (signC kx lx)] 5)) := (by repeat (first | exact Below.refl _ _ | refine Below.alloc ?_ (by first | exact Nat.le_refl _ | (simp; done) | (simp; omega)) _ | refine Below.drew ?_ | refine Below.setCell ?_ (by first | exact Nat.le_refl _ | (simp; done) | (simp; omega)) _))
        have g0v := keepc hbV g0
        have g1v := keepc hbV g1
        have hB3 := bcall hB2 (by omega) hbV
        clear hbV
        have hl := textN_len W cs k
        have hcv := conv_one w2 (signB (kx, lx))
        rw [signB_val kx lx hkc] at hcv
        have hs1 : (str (textN W cs k)).size + (str [signB (kx, lx)]).size ≤ 9223372036854775807 := by rw [str_size, str_size]; simp; omega
        have hs2 : (str (textN W cs k) ++ str [signB (kx, lx)]).size + (ByteArray.mk #[10]).size ≤ 9223372036854775807 := by rw [str_append, str_size]; simp [ByteArray.size]; omega
        have v1 : IntKind.i64.wrap ((k : Int) + 1) = (k : Int) + 1 := IntWalk.i64_in _ (by omega)
        have em : ((k : Int) + 1) % (W : Int) = (((k + 1) % W : Nat) : Int) := by simp
        by_cases hq : (k + 1) % W = 0
        · have hq2 : ((((k : Int) + 1) % (W : Int)) == 0) = true := by rw [em, hq]; rfl
          have HN : Hid (str (textN W cs k) ++ str [signB (kx, lx)] ++ ByteArray.mk #[10] = str (textN W cs (k + 1))) := by
            show _ = _
            rw [show ByteArray.mk #[10] = str [10] from rfl, str_append, str_append]
            simp only [textN, HQ.out, hq, if_true]
            simp
          clear em hq hl
          go_wp2
          go_roundw
          case rel => exact ⟨k + 1, by omega, by rw [HN.out], by go_num, hB3⟩
          case measure => simp [intOf]; omega
        · have hq2 : ((((k : Int) + 1) % (W : Int)) == 0) = false := by rw [em]; simp; omega
          have HN : Hid (str (textN W cs k) ++ str [signB (kx, lx)] = str (textN W cs (k + 1))) := by
            show _ = _
            rw [str_append]
            simp only [textN, HQ.out, hq, if_false]
          clear em hq hl
          go_wp2
          go_roundw
          case rel => exact ⟨k + 1, by omega, by rw [HN.out], by go_num, hB3⟩
          case measure => simp [intOf]; omega
      · have hbf := bcall hB1 (by omega) hb
        have hkk : k = cs.length := by omega
        clear hk
        have hj : ¬ ((k : Int) < (cs.length : Int)) := by omega
        have HE : Hid (k = cs.length) := hkk
        clear hkk
        go_wp2
        go_ret
        exact ⟨by rw [HT.out, ← HE.out]; rfl, hbf⟩
  · have hno : okG wd cs = false := by simpa using hok
    have HT : Hid (textG wd cs = []) := by show _ = _; simp [textG, hno]
    clear hok
    go_enter Try.func13, Try.ntmps13
    go_wp2_with fail
    refine (specGridOk_any _ _ _ cs _ (h.below hbX) (by omega)).mono ?_
    rintro e w1 ⟨rfl, hb1⟩
    have hB1 := bcall hbX (by simp) hb1
    go_wp2
    go_ret
    exact ⟨by rw [HT.out]; rfl, hB1⟩

end Go.Proofs.Yteibklaabnnfbaa
