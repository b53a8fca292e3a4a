/-
  'laws.FnSightTurn' returns true for all codes: sights turn with the grid. No condition.
-/
import Derived.Test.YtankkkiccokggaaFb
import Derived.Test.YtankkkiccokggaaVr
import Derived.Deep.RegionHeld3
namespace Go.Proofs.Ytankkkiccokggaa.LwSightTurn
open Go.ChangeShapes Go.WideShapes Go.ChangeAt Go.RowKit
set_option linter.unusedVariables false
attribute [local go_sem ↓] Go.wp_at_zero Go.wp_at_succ

/-- Too long a code. -/
theorem big (a : Option Addr) (n cap : Nat) (f : Nat → Int) (w : World) (h : BytesAt w a n f) (hm : n ≤ cap ∧ cap ≤ 9223372036854775807) (hbig : 1048576 < n) :
    Calls Try.prog 6 #[.slice a n cap] w fun e w' => e = .returned (.bool true) ∧ Below w.heap.size w w' := by
  have hb : (1048576 : Int) < (n : Int) := by omega
  go_enter Try.func6, Try.ntmps6
  go_wp2
  go_ret
  exact ⟨rfl, Below.refl _ _⟩

set_option maxRecDepth 100000 in
set_option maxHeartbeats 8000000 in
theorem small (a : Option Addr) (n cap : Nat) (f : Nat → Int) (w : World) (h : BytesAt w a n f) (hm : n ≤ cap ∧ cap ≤ 9223372036854775807) (hsm : n ≤ 1048576) :
    Calls Try.prog 6 #[.slice a n cap] w fun e w' => e = .returned (.bool true) ∧ Below w.heap.size w w' := by
  have hb : (n : Int) ≤ 1048576 := by omega
  go_enter Try.func6, Try.ntmps6
  go_wp2_with fail
  refine (drawSightTurn_any a n cap f w h hsm hm.1 hm.2).mono ?_
  rintro e w1 ⟨wd, a1, c1, cs, k, rfl, hC1, hl1, hk1, hb_w1⟩
  have hz_w1 := hb_w1.size
  try simp at hz_w1
  have hbS1 : Below w1.heap.size w1 (w1.alloc (.cells #[.int .i64 wd, .slice a1 cs.length c1] 25)) := (by repeat (first | exact Below.refl _ _ | refine Below.alloc ?_ (by first | exact Nat.le_refl _ | (simp; done) | (simp; omega)) _ | refine Below.drew ?_ | refine Below.setCell ?_ (by first | exact Nat.le_refl _ | (simp; done) | (simp; omega)) _))
  replace hC1 := hC1.below hbS1
  have g0 : (w1.alloc (.cells #[.int .i64 wd, .slice a1 cs.length c1] 25)).cell? ⟨w1.heap.size, 0, none⟩ = some (.int .i64 wd) := by simp [go_sem]
  have g1 : (w1.alloc (.cells #[.int .i64 wd, .slice a1 cs.length c1] 25)).cell? ⟨w1.heap.size, 1, none⟩ = some (.slice a1 cs.length c1) := by simp [go_sem]
  have hBs1 := bcall hb_w1 (by omega) hbS1
  clear hb_w1
  clear hbS1
  obtain ⟨x, ex⟩ : ∃ x, turnK wd cs k = x := ⟨_, rfl⟩
  obtain ⟨y, ey⟩ : ∃ y, flipK wd cs k = y := ⟨_, rfl⟩
  have EX : Hid (turnK wd cs k = x) := ex
  have EY : Hid (flipK wd cs k = y) := ey
  clear ex ey
  have bx : (x == x) = true := by simp
  have by' : (y == y) = true := by simp
  have nx : (x != x) = false := by simp
  have ny : (y != y) = false := by simp
  go_wp2_with fail
  refine (implTurn_any wd a1 c1 cs _ hC1 (by omega) k).mono ?_
  rintro e w2 ⟨rfl, hb_w2⟩
  rw [EX.out]
  have hz_w2 := hb_w2.size
  try simp at hz_w2
  replace g0 := keepc hb_w2 g0; replace g1 := keepc hb_w2 g1
  replace hC1 := hC1.below hb_w2
  have hB_w2 := bcall hBs1 (by first | omega | (simp; omega)) hb_w2
  clear hBs1 hb_w2
  go_wp2_with fail
  refine (implFlip_any wd a1 c1 cs _ hC1 (by omega) k).mono ?_
  rintro e w3 ⟨rfl, hb_w3⟩
  rw [EY.out]
  have hz_w3 := hb_w3.size
  try simp at hz_w3
  replace g0 := keepc hb_w3 g0; replace g1 := keepc hb_w3 g1
  replace hC1 := hC1.below hb_w3
  have hB_w3 := bcall hB_w2 (by first | omega | (simp; omega)) hb_w3
  clear hB_w2 hb_w3
  go_wp2_with fail
  refine (specTurn_any wd a1 c1 cs _ hC1 (by omega) k).mono ?_
  rintro e w4 ⟨rfl, hb_w4⟩
  rw [EX.out]
  have hz_w4 := hb_w4.size
  try simp at hz_w4
  replace g0 := keepc hb_w4 g0; replace g1 := keepc hb_w4 g1
  replace hC1 := hC1.below hb_w4
  have hB_w4 := bcall hB_w3 (by first | omega | (simp; omega)) hb_w4
  clear hB_w3 hb_w4
  go_wp2_with fail
  refine (specFlip_any wd a1 c1 cs _ hC1 (by omega) k).mono ?_
  rintro e w5 ⟨rfl, hb_w5⟩
  rw [EY.out]
  have hz_w5 := hb_w5.size
  try simp at hz_w5
  replace g0 := keepc hb_w5 g0; replace g1 := keepc hb_w5 g1
  replace hC1 := hC1.below hb_w5
  have hB_w5 := bcall hB_w4 (by first | omega | (simp; omega)) hb_w5
  clear hB_w4 hb_w5
  by_cases hx0 : x < 0
  · go_wp2_with fail
    refine (specTurn_any wd a1 c1 cs _ hC1 (by omega) k).mono ?_
    rintro e w6 ⟨rfl, hb_w6⟩
    rw [EX.out]
    have hz_w6 := hb_w6.size
    try simp at hz_w6
    replace g0 := keepc hb_w6 g0; replace g1 := keepc hb_w6 g1
    replace hC1 := hC1.below hb_w6
    have hB_w6 := bcall hB_w5 (by first | omega | (simp; omega)) hb_w6
    clear hB_w5 hb_w6
    go_wp2_with fail
    refine (specFlip_any wd a1 c1 cs _ hC1 (by omega) k).mono ?_
    rintro e w7 ⟨rfl, hb_w7⟩
    rw [EY.out]
    have hz_w7 := hb_w7.size
    try simp at hz_w7
    replace g0 := keepc hb_w7 g0; replace g1 := keepc hb_w7 g1
    replace hC1 := hC1.below hb_w7
    have hB_w7 := bcall hB_w6 (by first | omega | (simp; omega)) hb_w7
    clear hB_w6 hb_w7
    go_wp2
    go_ret
    exact ⟨rfl, hB_w7⟩
  · obtain ⟨hok, hk0, hkM⟩ := turnK_yes (wd := wd) (cs := cs) (k := k) (by rw [EX.out]; exact hx0)
    obtain ⟨W, H, SZ⟩ := siz_of hok
    obtain ⟨ca, eca, SA⟩ := siz_turn SZ
    obtain ⟨cb, ecb, SB⟩ := siz_turn SA
    obtain ⟨cc, ecc, SC⟩ := siz_turn SB
    have hW := SZ.hW
    have hH := SZ.hH
    rw [SZ.em] at hkM
    obtain ⟨kk, rfl⟩ := Int.eq_ofNat_of_zero_le hk0
    obtain ⟨m, hm1⟩ : ∃ m : Nat, m = 2 * (W + H) := ⟨_, rfl⟩
    have hkm : kk < m := by omega
    have hm2 : m ≤ 20 := by omega
    have EM : Hid (manyG wd cs = (m : Int)) := by show _ = _; rw [SZ.em, hm1]; simp
    have hla : ca.length ≤ 31 := by rw [SA.el]; exact Nat.le_trans (Nat.mul_le_mul hH.2 hW.2) (by omega)
    have hlb : cb.length ≤ 31 := by rw [SB.el]; exact Nat.le_trans (Nat.mul_le_mul hW.2 hH.2) (by omega)
    have hlc : cc.length ≤ 31 := by rw [SC.el]; exact Nat.le_trans (Nat.mul_le_mul hH.2 hW.2) (by omega)
    obtain ⟨x1, ex1⟩ : ∃ x1, turnK (H : Int) ca x = x1 := ⟨_, rfl⟩
    obtain ⟨x2, ex2⟩ : ∃ x2, turnK (W : Int) cb x1 = x2 := ⟨_, rfl⟩
    have ex3 : turnK (H : Int) cc x2 = (kk : Int) := by
      rw [← ex2, ← ex1, ← EX.out]
      exact turns_four SZ SA SB SC kk (by omega)
    have EF : Hid (flipK wd cs y = (kk : Int)) := by show _ = _; rw [← EY.out]; exact flips_two SZ kk (by omega)
    have HN : Hid (∀ i : Nat, i < m → ¬ i = kk → ¬ turnK wd cs (i : Int) = x ∧ ¬ flipK wd cs (i : Int) = y) := by
      intro i hi hne
      rw [← EX.out, ← EY.out]
      exact turns_apart SZ kk i (by omega) (by omega) hne
    have E1 : Hid (turnK (H : Int) ca x = x1) := ex1
    have E2 : Hid (turnK (W : Int) cb x1 = x2) := ex2
    have E3 : Hid (turnK (H : Int) cc x2 = (kk : Int)) := ex3
    have ECA : Hid (turnG wd cs = ((H : Int), ca)) := eca
    have ECB : Hid (turnG (H : Int) ca = ((W : Int), cb)) := ecb
    have ECC : Hid (turnG (W : Int) cb = ((H : Int), cc)) := ecc
    clear ex1 ex2 ex3 eca ecb ecc hm1 hkM hok EX EY
    have hx0' : 0 ≤ x := by omega
    clear hx0
    go_wp2_with fail
    refine (turnI SZ ECA.out a1 c1 _ hC1).mono ?_
    rintro e w6 ⟨aA, cA, rfl, hCA, hb_w6⟩
    have hz_w6 := hb_w6.size
    try simp at hz_w6
    replace g0 := keepc hb_w6 g0; replace g1 := keepc hb_w6 g1
    replace hC1 := hC1.below hb_w6
    have hB_w6 := bcall hB_w5 (by first | omega | (simp; omega)) hb_w6
    clear hB_w5 hb_w6
    have hbS2 : Below w6.heap.size w6 (w6.alloc (.cells #[.int .i64 (H : Int), .slice aA ca.length cA] 25)) := (by repeat (first | exact Below.refl _ _ | refine Below.alloc ?_ (by first | exact Nat.le_refl _ | (simp; done) | (simp; omega)) _ | refine Below.drew ?_ | refine Below.setCell ?_ (by first | exact Nat.le_refl _ | (simp; done) | (simp; omega)) _))
    replace g0 := keepc hbS2 g0; replace g1 := keepc hbS2 g1
    replace hC1 := hC1.below hbS2
    replace hCA := hCA.below hbS2
    have p0 : (w6.alloc (.cells #[.int .i64 (H : Int), .slice aA ca.length cA] 25)).cell? ⟨w6.heap.size, 0, none⟩ = some (.int .i64 (H : Int)) := by simp [go_sem]
    have p1 : (w6.alloc (.cells #[.int .i64 (H : Int), .slice aA ca.length cA] 25)).cell? ⟨w6.heap.size, 1, none⟩ = some (.slice aA ca.length cA) := by simp [go_sem]
    have hBs2 := bcall hB_w6 (by omega) hbS2
    clear hB_w6
    clear hbS2
    go_wp2_with fail
    refine (turnI SA ECB.out aA cA _ hCA).mono ?_
    rintro e w7 ⟨aB, cB, rfl, hCB, hb_w7⟩
    have hz_w7 := hb_w7.size
    try simp at hz_w7
    replace g0 := keepc hb_w7 g0; replace g1 := keepc hb_w7 g1; replace p0 := keepc hb_w7 p0; replace p1 := keepc hb_w7 p1
    replace hC1 := hC1.below hb_w7
    replace hCA := hCA.below hb_w7
    have hB_w7 := bcall hBs2 (by first | omega | (simp; omega)) hb_w7
    clear hBs2 hb_w7
    have hbS3 : Below w7.heap.size w7 (w7.alloc (.cells #[.int .i64 (W : Int), .slice aB cb.length cB] 25)) := (by repeat (first | exact Below.refl _ _ | refine Below.alloc ?_ (by first | exact Nat.le_refl _ | (simp; done) | (simp; omega)) _ | refine Below.drew ?_ | refine Below.setCell ?_ (by first | exact Nat.le_refl _ | (simp; done) | (simp; omega)) _))
    replace g0 := keepc hbS3 g0; replace g1 := keepc hbS3 g1; replace p0 := keepc hbS3 p0; replace p1 := keepc hbS3 p1
    replace hC1 := hC1.below hbS3
    replace hCA := hCA.below hbS3
    replace hCB := hCB.below hbS3
    have q0 : (w7.alloc (.cells #[.int .i64 (W : Int), .slice aB cb.length cB] 25)).cell? ⟨w7.heap.size, 0, none⟩ = some (.int .i64 (W : Int)) := by simp [go_sem]
    have q1 : (w7.alloc (.cells #[.int .i64 (W : Int), .slice aB cb.length cB] 25)).cell? ⟨w7.heap.size, 1, none⟩ = some (.slice aB cb.length cB) := by simp [go_sem]
    have hBs3 := bcall hB_w7 (by omega) hbS3
    clear hB_w7
    clear hbS3
    go_wp2_with fail
    refine (turnI SB ECC.out aB cB _ hCB).mono ?_
    rintro e w8 ⟨aC, cC, rfl, hCC, hb_w8⟩
    have hz_w8 := hb_w8.size
    try simp at hz_w8
    replace g0 := keepc hb_w8 g0; replace g1 := keepc hb_w8 g1; replace p0 := keepc hb_w8 p0; replace p1 := keepc hb_w8 p1; replace q0 := keepc hb_w8 q0; replace q1 := keepc hb_w8 q1
    replace hC1 := hC1.below hb_w8
    replace hCA := hCA.below hb_w8
    replace hCB := hCB.below hb_w8
    have hB_w8 := bcall hBs3 (by first | omega | (simp; omega)) hb_w8
    clear hBs3 hb_w8
    have hbS4 : Below w8.heap.size w8 (w8.alloc (.cells #[.int .i64 (H : Int), .slice aC cc.length cC] 25)) := (by repeat (first | exact Below.refl _ _ | refine Below.alloc ?_ (by first | exact Nat.le_refl _ | (simp; done) | (simp; omega)) _ | refine Below.drew ?_ | refine Below.setCell ?_ (by first | exact Nat.le_refl _ | (simp; done) | (simp; omega)) _))
    replace g0 := keepc hbS4 g0; replace g1 := keepc hbS4 g1; replace p0 := keepc hbS4 p0; replace p1 := keepc hbS4 p1; replace q0 := keepc hbS4 q0; replace q1 := keepc hbS4 q1
    replace hC1 := hC1.below hbS4
    replace hCA := hCA.below hbS4
    replace hCB := hCB.below hbS4
    replace hCC := hCC.below hbS4
    have r0 : (w8.alloc (.cells #[.int .i64 (H : Int), .slice aC cc.length cC] 25)).cell? ⟨w8.heap.size, 0, none⟩ = some (.int .i64 (H : Int)) := by simp [go_sem]
    have r1 : (w8.alloc (.cells #[.int .i64 (H : Int), .slice aC cc.length cC] 25)).cell? ⟨w8.heap.size, 1, none⟩ = some (.slice aC cc.length cC) := by simp [go_sem]
    have hBs4 := bcall hB_w8 (by omega) hbS4
    clear hB_w8
    clear hbS4

    go_wp2_with fail
    obtain ⟨u, hu⟩ : ∃ u, u = w8.alloc (.cells #[.int .i64 (H : Int), .slice aC cc.length cC] 25) := ⟨_, rfl⟩
    rw [← hu] at hBs4 g0 g1 p0 p1 q0 q1 r0 r1 hC1 hCA hCB hCC ⊢
    clear hu
    go_region_held3 (fun w' => w'.cell? ⟨w6.heap.size, 0, none⟩ = some (.int .i64 (H : Int)) ∧ w'.cell? ⟨w6.heap.size, 1, none⟩ = some (.slice aA ca.length cA) ∧ w'.cell? ⟨w7.heap.size, 0, none⟩ = some (.int .i64 (W : Int)) ∧ w'.cell? ⟨w7.heap.size, 1, none⟩ = some (.slice aB cb.length cB) ∧ w'.cell? ⟨w8.heap.size, 0, none⟩ = some (.int .i64 (H : Int)) ∧ w'.cell? ⟨w8.heap.size, 1, none⟩ = some (.slice aC cc.length cC))
      (first
        | with_reducible exact ⟨keepc hbF p0, keepc hbF p1, keepc hbF q0, keepc hbF q1, keepc hbF r0, keepc hbF r1⟩
        | with_reducible exact ⟨keepc hbE p0, keepc hbE p1, keepc hbE q0, keepc hbE q1, keepc hbE r0, keepc hbE r1⟩
        | with_reducible exact ⟨keepc hbD p0, keepc hbD p1, keepc hbD q0, keepc hbD q1, keepc hbD r0, keepc hbD r1⟩
        | go_keep)
      (first
        | (go_at_call 25; refine (implTurn_any (H : Int) aC cC cc _ (hCC.below hbE) (by omega) x2).mono ?_; rintro e wF ⟨rfl, hbF'⟩; rw [E3.out]; have hbF : Below u.heap.size u wF := bcall hbE hbE.size hbF')
        | (go_at_call 25; refine (implTurn_any (W : Int) aB cB cb _ (hCB.below hbD) (by omega) x1).mono ?_; rintro e wE ⟨rfl, hbE'⟩; rw [E2.out]; have hbE : Below u.heap.size u wE := bcall hbD hbD.size hbE')
        | (go_at_call 25; refine (implTurn_any (H : Int) aA cA ca _ (by first | with_reducible exact hCA | with_reducible exact hCA.below (Below.refl _ _).drew) (by omega) x).mono ?_; rintro e wD ⟨rfl, hbD'⟩; rw [E1.out]; have hbD : Below u.heap.size u wD := (by first | with_reducible exact hbD' | with_reducible exact bdrew hbD'))
        | fail)
    all_goals
      have hBF := bcall hBs4 hBs4.size hbF
      replace g0 := keepc hbF g0; replace g1 := keepc hbF g1
      replace hC1 := hC1.below hbF
      clear p0 p1 q0 q1 r0 r1 hCA hCB hCC hbD hbE
      go_wp2
      go_loopw [11] (fun ii wr => ∃ I : Nat, I ≤ m ∧ ii = .int .i64 I ∧ Below wF.heap.size wF wr) (fun ii _ => m - (intOf ii).toNat)
      case atStart => exact ⟨0, by omega, rfl, by first | exact Below.refl _ _ | exact (Below.refl _ _).drew⟩
      case round =>
        rename World => wo
        obtain ⟨I, hI, rfl, hb⟩ := hrel
        replace g0 := keepc hb g0; replace g1 := keepc hb g1
        have hz := hb.size
        have hC2 := hC1.below hb
        go_wp2_with fail
        refine (implMany_any wd a1 c1 cs _ hC2 (by omega)).mono ?_
        rintro e v1 ⟨rfl, hb1⟩
        rw [EM.out]
        have hz1 := hb1.size
        have hBv1 := bcall hb hz hb1
        replace g0 := keepc hb1 g0; replace g1 := keepc hb1 g1
        replace hC2 := hC2.below hb1
        clear hb1
        by_cases hlt : I < m
        · by_cases hik : I = kk
          · subst hik
            have nk : ((I : Int) != (I : Int)) = false := by simp
            go_wp2
            go_roundw
            case rel => exact ⟨I + 1, by omega, by go_num, hBv1⟩
            case measure => simp [intOf]; omega
          · have nk : ((I : Int) != (kk : Int)) = true := by simp; omega
            obtain ⟨n1, n2⟩ := HN.out I hlt hik
            obtain ⟨v, ev⟩ : ∃ v, turnK wd cs (I : Int) = v := ⟨_, rfl⟩
            obtain ⟨u2, eu⟩ : ∃ u2, flipK wd cs (I : Int) = u2 := ⟨_, rfl⟩
            rw [ev] at n1
            rw [eu] at n2
            have EVV : Hid (turnK wd cs (I : Int) = v) := ev
            have EU : Hid (flipK wd cs (I : Int) = u2) := eu
            have b1 : (v == x) = false := by simp [n1]
            have b2 : (u2 == y) = false := by simp [n2]
            clear ev eu n1 n2 hik
            go_wp2_with fail
            refine (implTurn_any wd a1 c1 cs _ hC2 (by omega) (I : Int)).mono ?_
            rintro e v2 ⟨rfl, hb2⟩
            rw [EVV.out]
            have hBv2 := bcall hBv1 hBv1.size hb2
            replace g0 := keepc hb2 g0; replace g1 := keepc hb2 g1
            replace hC2 := hC2.below hb2
            clear hb2
            go_wp2_with fail
            refine (implFlip_any wd a1 c1 cs _ hC2 (by omega) (I : Int)).mono ?_
            rintro e v3 ⟨rfl, hb3⟩
            rw [EU.out]
            have hBv3 := bcall hBv2 hBv2.size hb3
            clear hb3
            go_wp2
            go_roundw
            case rel => exact ⟨I + 1, by omega, by go_num, hBv3⟩
            case measure => simp [intOf]; omega
        · have bq : ((kk : Int) == (kk : Int)) = true := by simp
          go_wp2_with fail
          refine (implFlip_any wd a1 c1 cs _ hC2 (by omega) y).mono ?_
          rintro e v2 ⟨rfl, hb2⟩
          rw [EF.out]
          have hBv2 := bcall (bcall hBF hBF.size hBv1) (by have := hBF.size; have := hBv1.size; omega) hb2
          go_wp2
          go_ret
          exact ⟨rfl, hBv2⟩

theorem walk (a : Option Addr) (n cap : Nat) (f : Nat → Int) (w : World) (h : BytesAt w a n f) (hm : n ≤ cap ∧ cap ≤ 9223372036854775807) :
    Calls Try.prog 6 #[.slice a n cap] w fun e w' => e = .returned (.bool true) ∧ Below w.heap.size w w' := by
  by_cases hs : n ≤ 1048576
  · exact small a n cap f w h hm hs
  · exact big a n cap f w h hm (by omega)

set_option maxRecDepth 100000 in
theorem lifted (os : Os) (started : os.Started) (H : Type) (enc : TypeId × Value → H) :
    ReturnsInHanded {} Try.checked os 6 .any (Rows.fnSightTurnSpec.pre6 enc Try.prog Try.f6 Rows.fnSightTurnRow.domain false) (Rows.fnSightTurnSpec.post enc Try.prog Try.f6 false true false false) := by
  refine returnsInHanded_of_change (C := Try.checked) own started (by kernel_rfl) Try.func6
    (ChangeSpec.witness6 (enc := enc) (C := Try.checked) false ⟨#[], #[.slice none 0 0], []⟩ 8 (by kernel_rfl) (by kernel_rfl) (by kernel_rfl) (by kernel_rfl)) ?_
  intro W base args ds gs before hval0 hW hcnd _
  have hval : ∀ (j : Nat) t v, Try.f6.params[j]? = some t → args[j]? = some v → Value.okWide Try.prog W .any base t v := hval0
  have hW' := hW
  obtain ⟨p, q, hA0, hV, rfl, hfz, hnd⟩ := hW
  have hA : DataW.TrodAll enc Try.prog W 0 (fun _ => true) true Try.f6.params.toList args.toList ds p := hA0
  rw [Try.params6] at hA hval
  obtain ⟨v0, vs0, d0, ds0, p0, q0, hargs, rfl, rfl, h0, r0⟩ := trodAll_cons hA
  obtain ⟨rfl, rfl, rfl⟩ := trodAll_nil r0
  obtain rfl : args = #[v0] := by cases args; simp_all
  obtain ⟨rfl, rfl⟩ := trodVars_none hV
  have k0 := h0
  have lt0 : ∀ x ∈ p0, x.block < W.heap.size := by obtain ⟨m, hm⟩ := k0; exact DataW.trod_lt m _ _ _ hm
  obtain ⟨a0, n0, cap0, f0, rfl, hC0, hm0⟩ := open_bytes (hval 0 22 v0 rfl rfl) h0
  clear hA0 hval0
  refine (walk a0 n0 cap0 f0 W hC0 hm0).mono fun e W' ⟨he, bel⟩ => ?_
  subst he
  exact ⟨_, rfl, _, _, _, [], _, [], hW', trodAll_mk1 (shut_bool Try.underlying4 _), (trodAll_cons_mk (Below.trod laidOut (by kernel_rfl) (of_decide_eq_true (by kernel_rfl)) k0 bel lt0) trodAll_mk0), rfl, bel.frame _, fun h => by cases h⟩

theorem over : Rows.fnSightTurnRow.holds Try.pinned (OpenSpec.ofChange Rows.fnSightTurnSpec) :=
  OpenClaim.holds_of_wide 6 Try.f6 rfl rfl rfl rfl rfl rfl rfl ⟨rfl, rfl, rfl, rfl, rfl⟩ rfl rfl rfl rfl rfl (by kernel_rfl) Try.func6 (by kernel_rfl)
    (of_decide_eq_true (by kernel_rfl)) (by unfold Func.isWrapper; first | (rw [if_pos (by decide +kernel)]; kernel_rfl) | (rw [if_neg (by decide +kernel)]; exact ⟨rfl, rfl⟩))
    (fun os started H enc _ => lifted os started H enc)

end Go.Proofs.Ytankkkiccokggaa.LwSightTurn

namespace Go.Proofs.Ytankkkiccokggaa
/-- The statement. -/
theorem lwSightTurn : Rows.FnSightTurnSaid := LwSightTurn.over
#print axioms lwSightTurn
end Go.Proofs.Ytankkkiccokggaa
