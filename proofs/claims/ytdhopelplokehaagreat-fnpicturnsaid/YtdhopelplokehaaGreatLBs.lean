/- Of the proof: PGt -/
import Derived.Test.YtdhopelplokehaaGreatLBi
import Derived.Test.YtdhopelplokehaaGreatLBq
import Derived.Test.YtdhopelplokehaaGreatLBr
set_option maxHeartbeats 8000000
set_option linter.unusedVariables false
namespace Go.Proofs.YtdhopelplokehaaGreat
namespace Sp
open Go.RowKit
attribute [local go_sem ↓] Go.wp_at_zero Go.wp_at_succ
theorem siz_turn3 {wd : Int} {cs : List (Int × Int)} {W H : Nat} (S : Siz wd cs W H) : turnG wd cs = ((H : Int), perm (turnAt W H) other cs) /\ Siz (H : Int) (perm (turnAt W H) other cs) H W := by
 have hok := S.ok
 rw [S.ew] at hok
 obtain ⟨e, k⟩ := turnG_ok W H cs hok S.hW S.hH S.el
 have hl : (perm (turnAt W H) other cs).length = H * W := by rw [perm_len, S.el, Nat.mul_comm]
 have hd : ((perm (turnAt W H) other cs).length : Int) / (H : Int) = (W : Int) := by
  rw [hl, <- Int.natCast_ediv, Nat.mul_div_cancel_left W S.hH.1]
 exact ⟨by rw [S.ew]; exact e, k, rfl, S.hH, S.hW, hl, hd, manyG_ok k hd⟩
theorem siz_flip3 {wd : Int} {cs : List (Int × Int)} {W H : Nat} (S : Siz wd cs W H) : flipG wd cs = ((W : Int), perm (flipAt W) other cs) /\ Siz (W : Int) (perm (flipAt W) other cs) W H := by
 have hok := S.ok
 rw [S.ew] at hok
 obtain ⟨e, k⟩ := flipG_ok W H cs hok S.hW S.hH S.el
 have hl : (perm (flipAt W) other cs).length = W * H := by rw [perm_len, S.el]
 have hd : ((perm (flipAt W) other cs).length : Int) / (W : Int) = (H : Int) := by
  rw [hl, <- Int.natCast_ediv, Nat.mul_div_cancel_left H S.hW.1]
 exact ⟨by rw [S.ew]; exact e, k, rfl, S.hW, S.hH, hl, hd, manyG_ok k hd⟩
theorem turnGP {wd w2 : Int} {cs ct : List (Int × Int)} (hv : turnG wd cs = (w2, ct)) (a : Option Addr) (cap : Nat) (w : World) (h : CellsAt w a cs) (hm : cs.length <= 1048576) :
  Calls SqP.prog 17 #[.agg #[.int .i64 wd, .slice a cs.length cap]] w fun e w' => ∃ a2 c2, e = .returned (.agg #[.int .i64 w2, .slice a2 ct.length c2]) /\ CellsAt w' a2 ct /\ Below w.heap.size w w' := by
 have := implGridTurn_any wd a cap cs w h hm
 rw [hv] at this
 refine this.mono ?_
 rintro e w' ⟨v, rfl, hO, hb⟩
 obtain ⟨a2, c2, rfl, hC⟩ := hO.slice
 exact ⟨a2, c2, rfl, hC, hb⟩
theorem flipGP {wd w2 : Int} {cs ct : List (Int × Int)} (hv : flipG wd cs = (w2, ct)) (a : Option Addr) (cap : Nat) (w : World) (h : CellsAt w a cs) (hm : cs.length <= 1048576) :
  Calls SqP.prog 18 #[.agg #[.int .i64 wd, .slice a cs.length cap]] w fun e w' => ∃ a2 c2, e = .returned (.agg #[.int .i64 w2, .slice a2 ct.length c2]) /\ CellsAt w' a2 ct /\ Below w.heap.size w w' := by
 have := implGridFlip_any wd a cap cs w h hm
 rw [hv] at this
 refine this.mono ?_
 rintro e w' ⟨v, rfl, hO, hb⟩
 obtain ⟨a2, c2, rfl, hC⟩ := hO.slice
 exact ⟨a2, c2, rfl, hC, hb⟩
theorem turnKP {wd : Int} {cs : List (Int × Int)} {k m : Int} (hv : turnK wd cs k = m) (a : Option Addr) (cap : Nat) (w : World) (h : CellsAt w a cs) (hm : cs.length <= 1048576) :
  Calls SqP.prog 19 #[.agg #[.int .i64 wd, .slice a cs.length cap], .int .i64 k] w fun e w' => e = .returned (.int .i64 m) /\ Below w.heap.size w w' := by
 rw [<- hv]; exact implTurn_any wd a cap cs w h hm k
theorem flipKP {wd : Int} {cs : List (Int × Int)} {k m : Int} (hv : flipK wd cs k = m) (a : Option Addr) (cap : Nat) (w : World) (h : CellsAt w a cs) (hm : cs.length <= 1048576) :
  Calls SqP.prog 20 #[.agg #[.int .i64 wd, .slice a cs.length cap], .int .i64 k] w fun e w' => e = .returned (.int .i64 m) /\ Below w.heap.size w w' := by
 rw [<- hv]; exact implFlip_any wd a cap cs w h hm k
theorem picT_len (wd : Int) (cs : List (Int × Int)) : (picN wd cs).length = (manyG wd cs).toNat := by unfold picN; rw [picK_len]
theorem picT_at (wd : Int) (cs : List (Int × Int)) {k : Nat} (hk : k < (manyG wd cs).toNat) : (picN wd cs).getD k 0 = lightN wd cs (k : Int) := by
 unfold picN picK
 simp [List.getD, hk]
theorem many_0 : manyG 0 [] = 0 := manyG_bad (by decide)
theorem pic_turn (wd : Int) (cs : List (Int × Int)) : (picN (turnG wd cs).1 (turnG wd cs).2).length = (picN wd cs).length /\ ∀ k, k < (picN wd cs).length -> ∃ A : Nat, turnK wd cs (k : Int) = (A : Int) /\ A < (picN wd cs).length /\ (picN (turnG wd cs).1 (turnG wd cs).2).getD A 0 = lightN wd cs (k : Int) := by
 rcases hk : okG wd cs with _ | _
 ·have e : turnG wd cs = (0, []) := by unfold turnG; rw [hk]; rfl
  have e1 : (picN wd cs).length = 0 := by rw [picT_len, manyG_bad hk]; rfl
  have e2 : (picN 0 []).length = 0 := by rw [picT_len, many_0]; rfl
  rw [e, e1]
  exact ⟨e2, fun k h => by omega⟩
 ·obtain ⟨W, H, S⟩ := siz_of hk
  obtain ⟨e, S'⟩ := siz_turn3 S
  have m1 : (picN wd cs).length = 2 * (W + H) := by rw [picT_len, S.em]; omega
  have m2 : (manyG (H : Int) (perm (turnAt W H) other cs)).toNat = 2 * (W + H) := by rw [S'.em]; omega
  rw [e, m1]
  refine ⟨by rw [picT_len, m2], fun k h => ?_⟩
  have hin : inS wd cs (k : Int) = true := by unfold inS; rw [S.em]; exact decide_eq_true (by omega)
  obtain ⟨r0, r1⟩ := light_turn S S' hin
  obtain ⟨A, hA⟩ := Int.eq_ofNat_of_zero_le r0.1
  rw [hA] at r0 r1
  exact ⟨A, hA, by omega, by rw [picT_at _ _ (by rw [m2]; omega)]; exact r1⟩
theorem pic_flip (wd : Int) (cs : List (Int × Int)) : (picN (flipG wd cs).1 (flipG wd cs).2).length = (picN wd cs).length /\ ∀ k, k < (picN wd cs).length -> ∃ A : Nat, flipK wd cs (k : Int) = (A : Int) /\ A < (picN wd cs).length /\ (picN (flipG wd cs).1 (flipG wd cs).2).getD A 0 = lightN wd cs (k : Int) := by
 rcases hk : okG wd cs with _ | _
 ·have e : flipG wd cs = (0, []) := by unfold flipG; rw [hk]; rfl
  have e1 : (picN wd cs).length = 0 := by rw [picT_len, manyG_bad hk]; rfl
  have e2 : (picN 0 []).length = 0 := by rw [picT_len, many_0]; rfl
  rw [e, e1]
  exact ⟨e2, fun k h => by omega⟩
 ·obtain ⟨W, H, S⟩ := siz_of hk
  obtain ⟨e, S'⟩ := siz_flip3 S
  have m1 : (picN wd cs).length = 2 * (W + H) := by rw [picT_len, S.em]; omega
  have m2 : (manyG (W : Int) (perm (flipAt W) other cs)).toNat = 2 * (W + H) := by rw [S'.em]; omega
  rw [e, m1]
  refine ⟨by rw [picT_len, m2], fun k h => ?_⟩
  have hin : inS wd cs (k : Int) = true := by unfold inS; rw [S.em]; exact decide_eq_true (by omega)
  obtain ⟨r0, r1⟩ := light_flip S S' hin
  obtain ⟨A, hA⟩ := Int.eq_ofNat_of_zero_le r0.1
  rw [hA] at r0 r1
  exact ⟨A, hA, by omega, by rw [picT_at _ _ (by rw [m2]; omega)]; exact r1⟩
theorem turn_few (wd : Int) (cs : List (Int × Int)) (h : cs.length <= 31) : (turnG wd cs).2.length <= 31 /\ (flipG wd cs).2.length <= 31 := by
 rcases hk : okG wd cs with _ | _
 ·have e : turnG wd cs = (0, []) := by unfold turnG; rw [hk]; rfl
  have e2 : flipG wd cs = (0, []) := by unfold flipG; rw [hk]; rfl
  rw [e, e2]; exact ⟨by simp, by simp⟩
 ·obtain ⟨W, H, S⟩ := siz_of hk
  rw [(siz_turn3 S).1, (siz_flip3 S).1]
  exact ⟨by rw [perm_len]; exact h, by rw [perm_len]; exact h⟩
theorem implPicR {wd : Int} {cs : List (Int × Int)} {ps : List Int} (hv : picN wd cs = ps) (a : Option Addr) (cap : Nat) (w : World) (h : CellsAt w a cs) (hm : cs.length < 4611686018427387904) (n : Nat) (hn : ps.length = n) :
  Calls SqP.prog 12 #[.agg #[.int .i64 wd, .slice a cs.length cap]] w fun e w' => ∃ a2 c2, e = .returned (.slice a2 n c2) /\ R1At w' a2 ps /\ Below w.heap.size w w' := by
 subst hv; subst hn
 exact implPicOf_any wd a cap cs w h hm
theorem picTurn_big (a : Option Addr) (n cap : Nat) (f : Nat -> Int) (w : World) (h : BytesAt w a n f) (hm : n <= cap /\ cap <= 9223372036854775807) (hbig : 1048576 < n) :
  Calls SqP.prog 4 #[.slice a n cap] w fun e w' => e = .returned (.bool true) /\ Below w.heap.size w w' := by
 have hb : (1048576 : Int) < (n : Int) := by omega
 go_enter SqP.func4, Tryz.ntmps4
 go_wp2
 go_ret
 exact ⟨rfl, Below.refl _ _⟩
set_option maxRecDepth 100000 in
theorem picTurn_small (a : Option Addr) (n cap : Nat) (f : Nat -> Int) (w : World) (h : BytesAt w a n f) (hm : n <= cap /\ cap <= 9223372036854775807) (hsm : n <= 1048576) :
  Calls SqP.prog 4 #[.slice a n cap] w fun e w' => e = .returned (.bool true) /\ Below w.heap.size w w' := by
 have hb : (n : Int) <= 1048576 := by omega
 go_enter SqP.func4, Tryz.ntmps4
 go_wp2_with fail
 refine (drawPicOf_any a n cap f w h hsm hm.1 hm.2).mono ?_
 rintro e w1 ⟨wd, a1, c1, cs, rfl, hC1, hl1, hb_w1⟩
 have hz_w1 := hb_w1.size
 have hbS1 : Below w1.heap.size w1 (w1.alloc (.cells #[.int .i64 wd, .slice a1 cs.length c1] 25)) := bel
 replace hC1 := hC1.below hbS1
 have g0 : (w1.alloc (.cells #[.int .i64 wd, .slice a1 cs.length c1] 25)).cell? ⟨w1.heap.size, 0, none⟩ = some (.int .i64 wd) := by simp [go_sem]
 have g1 : (w1.alloc (.cells #[.int .i64 wd, .slice a1 cs.length c1] 25)).cell? ⟨w1.heap.size, 1, none⟩ = some (.slice a1 cs.length c1) := by simp [go_sem]
 have hBs1 := bcall hb_w1 (by omega) hbS1
 clear hb_w1 hbS1
 obtain ⟨ps, hps⟩ : ∃ ps, picN wd cs = ps := ⟨_, rfl⟩
 have hpl : ps.length = (manyG wd cs).toNat := by rw [<- hps]; unfold picN; rw [picK_len]
 have hpv : ∀ k, k < ps.length -> ps.getD k 0 = lightN wd cs (k : Int) := by
  intro k hk
  have hk' : k < (manyG wd cs).toNat := by omega
  rw [<- hps]
  unfold picN picK
  simp [List.getD, hk']
 have hmn : 0 <= manyG wd cs /\ manyG wd cs <= 20 := by
  rcases hk : okG wd cs with _ | _
  ·rw [manyG_bad hk]; omega
  ·obtain ⟨W, H, rfl, h1, h2, h3, h4, el, hH, hHI⟩ := okG_nat wd cs hk
   rw [manyG_ok hk hHI]; omega
 have hpm : (ps.length : Int) = manyG wd cs := by omega
 have hp20 : ps.length <= 20 := by omega
 have EP : Hid (picN wd cs = ps) := hps
 have HPV : Hid (∀ k, k < ps.length -> ps.getD k 0 = lightN wd cs (k : Int)) := hpv
 have EM : Hid ((ps.length : Int) = manyG wd cs) := hpm
 clear hps hpl hpv hmn hpm
 go_wp2_with fail
 refine (implPicOf_any wd a1 c1 cs _ hC1 (by omega)).mono ?_
 rintro e w2 ⟨a2, c2, rfl, hR2, hb_w2⟩
 rw [EP.out] at hR2 ⊢
 have hz_w2 := hb_w2.size
 simp at hz_w2
 replace g0 := keepc hb_w2 g0; replace g1 := keepc hb_w2 g1
 replace hC1 := hC1.below hb_w2
 have hB_w2 := bcall hBs1 (by first | omega | (simp; omega)) hb_w2
 clear hBs1 hb_w2
 go_wp2_with fail
 refine (specPicOf_any wd a1 c1 cs _ hC1 (by omega)).mono ?_
 rintro e w3 ⟨v3, rfl, hO3, hb_w3⟩
 rw [EP.out] at hO3
 obtain ⟨a3, c3, rfl, hR3⟩ := row1_at hO3
 have hz_w3 := hb_w3.size
 replace g0 := keepc hb_w3 g0; replace g1 := keepc hb_w3 g1
 replace hC1 := hC1.below hb_w3
 replace hR2 := hR2.below hb_w3
 have hB_w3 := bcall hB_w2 (by omega) hb_w3
 clear hB_w2 hb_w3 hO3
 go_wp2_with fail
 refine (llInts_same a2 a3 c2 c3 ps _ hR2 hR3 (by omega)).mono ?_
 rintro e w4 ⟨rfl, hb_w4⟩
 have hz_w4 := hb_w4.size
 replace g0 := keepc hb_w4 g0; replace g1 := keepc hb_w4 g1
 replace hC1 := hC1.below hb_w4
 replace hR2 := hR2.below hb_w4
 have hB_w4 := bcall hB_w3 (by omega) hb_w4
 clear hB_w3 hb_w4 hR3
 obtain ⟨tw, ct, ht⟩ : ∃ tw ct, turnG wd cs = (tw, ct) := ⟨_, _, rfl⟩
 obtain ⟨fw, cf, hf⟩ : ∃ fw cf, flipG wd cs = (fw, cf) := ⟨_, _, rfl⟩
 have hfew := turn_few wd cs hl1
 have hpt := pic_turn wd cs
 have hpf := pic_flip wd cs
 rw [ht] at hfew hpt
 rw [hf] at hfew hpf
 rw [EP.out] at hpt hpf
 obtain ⟨ts, hts⟩ : ∃ ts, picN tw ct = ts := ⟨_, rfl⟩
 obtain ⟨fs, hfs⟩ : ∃ fs, picN fw cf = fs := ⟨_, rfl⟩
 simp only [hts] at hpt
 simp only [hfs] at hpf
 have ET : Hid (turnG wd cs = (tw, ct)) := ht
 have EF : Hid (flipG wd cs = (fw, cf)) := hf
 have ETS : Hid (picN tw ct = ts) := hts
 have EFS : Hid (picN fw cf = fs) := hfs
 have HT : Hid (∀ k, k < ps.length -> ∃ A : Nat, turnK wd cs (k : Int) = (A : Int) /\ A < ps.length /\ ts.getD A 0 = lightN wd cs (k : Int)) := hpt.2
 have HF : Hid (∀ k, k < ps.length -> ∃ A : Nat, flipK wd cs (k : Int) = (A : Int) /\ A < ps.length /\ fs.getD A 0 = lightN wd cs (k : Int)) := hpf.2
 have ELT : Hid (ts.length = ps.length) := hpt.1
 have ELF : Hid (fs.length = ps.length) := hpf.1
 have hct : ct.length <= 31 := hfew.1
 have hcf : cf.length <= 31 := hfew.2
 clear ht hf hfew hpt hpf hts hfs
 go_wp2_with fail
 refine (turnGP ET.out a1 c1 _ hC1 (by omega)).mono ?_
 rintro e w5 ⟨a5, c5, rfl, hC5, hb_w5⟩
 have hz_w5 := hb_w5.size
 replace g0 := keepc hb_w5 g0; replace g1 := keepc hb_w5 g1
 replace hC1 := hC1.below hb_w5
 replace hR2 := hR2.below hb_w5
 have hB_w5 := bcall hB_w4 (by omega) hb_w5
 clear hB_w4 hb_w5
 go_wp2_with fail
 refine (implPicR ETS.out a5 c5 _ hC5 (by omega) ps.length ELT.out).mono ?_
 rintro e w6 ⟨a6, c6, rfl, hR6, hb_w6⟩
 have hz_w6 := hb_w6.size
 replace g0 := keepc hb_w6 g0; replace g1 := keepc hb_w6 g1
 replace hC1 := hC1.below hb_w6
 replace hR2 := hR2.below hb_w6
 have hB_w6 := bcall hB_w5 (by omega) hb_w6
 clear hB_w5 hb_w6 hC5
 go_wp2_with fail
 refine (flipGP EF.out a1 c1 _ hC1 (by omega)).mono ?_
 rintro e w7 ⟨a7, c7, rfl, hC7, hb_w7⟩
 have hz_w7 := hb_w7.size
 replace g0 := keepc hb_w7 g0; replace g1 := keepc hb_w7 g1
 replace hC1 := hC1.below hb_w7
 replace hR2 := hR2.below hb_w7
 replace hR6 := hR6.below hb_w7
 have hB_w7 := bcall hB_w6 (by omega) hb_w7
 clear hB_w6 hb_w7
 go_wp2_with fail
 refine (implPicR EFS.out a7 c7 _ hC7 (by omega) ps.length ELF.out).mono ?_
 rintro e w8 ⟨a8, c8, rfl, hR8, hb_w8⟩
 have hz_w8 := hb_w8.size
 replace g0 := keepc hb_w8 g0; replace g1 := keepc hb_w8 g1
 replace hC1 := hC1.below hb_w8
 replace hR2 := hR2.below hb_w8
 replace hR6 := hR6.below hb_w8
 have hB_w8 := bcall hB_w7 (by omega) hb_w8
 clear hB_w7 hb_w8 hC7
 go_wp2_with fail
 go_loopw [7] (fun kk wr => ∃ k : Nat, k <= ps.length /\ kk = .int .i64 k /\ Below w8.heap.size w8 wr) (fun kk _ => ps.length - (intOf kk).toNat)
 case atStart => exact ⟨0, Nat.zero_le _, rfl, Below.refl _ _⟩
 case round =>
  rename World => wo
  obtain ⟨k, hk, rfl, hbo⟩ := hrel
  have hzo := hbo.size
  have g0o := keepc hbo g0
  have g1o := keepc hbo g1
  have hCo := hC1.below hbo
  by_cases hlt : k < ps.length
  ·have bl : decide ((k : Int) < (ps.length : Int)) = true := decide_eq_true (by omega)
   have wk : IntKind.i64.wrap ((k : Int) + 1) = (k : Int) + 1 := IntWalk.i64_in _ (by omega)
   obtain ⟨A, eA, hA, vA⟩ := HT.out k hlt
   obtain ⟨F, eF, hF, vF⟩ := HF.out k hlt
   have EA : Hid (turnK wd cs (k : Int) = (A : Int)) := eA
   have EFk : Hid (flipK wd cs (k : Int) = (F : Int)) := eF
   clear eA eF
   go_wp2_with fail
   refine (turnKP EA.out a1 c1 _ hCo (by omega)).mono ?_
   rintro e wp ⟨rfl, hb_p⟩
   have hz_p := hb_p.size
   have g0p := keepc hb_p g0o
   have g1p := keepc hb_p g1o
   have hCp := hCo.below hb_p
   have hbp := bcall hbo hzo hb_p
   clear hb_p g0o g1o hCo
   go_wp2_with fail
   refine (flipKP EFk.out a1 c1 _ hCp (by omega)).mono ?_
   rintro e wq ⟨rfl, hb_q⟩
   have hz_q := hb_q.size
   have hbq := bcall hbp (by omega) hb_q
   clear hb_q g0p g1p hCp
   obtain ⟨b2, o2, rfl, _, y2⟩ := (hR2.below hbq).at hlt
   obtain ⟨b6, o6, rfl, _, y6⟩ := (hR6.below hbq).at (show A < ts.length by rw [ELT.out]; exact hA)
   obtain ⟨b8, o8, rfl, _, y8⟩ := (hR8.below hbq).at (show F < fs.length by rw [ELF.out]; exact hF)
   rw [HPV.out k hlt] at y2
   rw [vA] at y6
   rw [vF] at y8
   obtain ⟨x, hx⟩ : ∃ x, lightN wd cs (k : Int) = x := ⟨_, rfl⟩
   rw [hx] at y2 y6 y8
   clear hx vA vF
   have bn : (x != x) = false := by simp
   have d1 : decide ((A : Int) < 0) = false := decide_eq_false (by omega)
   have d2 : decide ((ps.length : Int) <= (A : Int)) = false := decide_eq_false (by omega)
   have d3 : decide ((F : Int) < 0) = false := decide_eq_false (by omega)
   have d4 : decide ((ps.length : Int) <= (F : Int)) = false := decide_eq_false (by omega)
   have hAI : (A : Int) < (ps.length : Int) := by omega
   have hFI : (F : Int) < (ps.length : Int) := by omega
   go_wp2_with fail
   go_quiet (fail)
   have hbz : Below w8.heap.size w8 (wq.drewN nq) := ⟨hbq.os, hbq.tape, hbq.output, hbq.size, hbq.block⟩
   go_wp2_with fail
   go_roundw
   case rel => exact ⟨k + 1, by omega, by go_num, hbz⟩
   case measure => simp [intOf]; omega
  ·have bl : decide ((k : Int) < (ps.length : Int)) = false := decide_eq_false (by omega)
   have bq : ((ps.length : Int) == (ps.length : Int)) = true := by simp
   have hBo := bcall hB_w8 (by omega) hbo
   go_wp2_with fail
   go_ret
   exact ⟨rfl, hBo⟩
theorem picTurn_any (a : Option Addr) (n cap : Nat) (f : Nat -> Int) (w : World) (h : BytesAt w a n f) (hm : n <= cap /\ cap <= 9223372036854775807) :
  Calls SqP.prog 4 #[.slice a n cap] w fun e w' => e = .returned (.bool true) /\ Below w.heap.size w w' := by
 by_cases hs : n <= 1048576
 ·exact picTurn_small a n cap f w h hm hs
 ·exact picTurn_big a n cap f w h hm (by omega)
end Sp
end Go.Proofs.YtdhopelplokehaaGreat
