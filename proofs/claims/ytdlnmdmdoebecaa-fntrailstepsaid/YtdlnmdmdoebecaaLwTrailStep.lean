/-
  'laws.FnTrailStep' returns true for all codes: light goes step by step. No condition.
-/
import Derived.Test.YtdlnmdmdoebecaaFb
import Derived.Test.YtdlnmdmdoebecaaUm
import Derived.Test.YtdlnmdmdoebecaaUl
import Derived.Test.YtdlnmdmdoebecaaUx
import Derived.BigQuiet
import Derived.Deep.RegionHeld3
import Derived.Deep.DrawnRows
import Derived.Deep.DeepCutAuto
namespace Go.Proofs.Ytdlnmdmdoebecaa.LwTrailStep
open Go.ChangeShapes Go.WideShapes Go.ChangeAt Go.RowKit
set_option linter.unusedVariables false
attribute [local go_sem ↓] Go.wp_at_zero Go.wp_at_succ

theorem rayUt : Try.prog.underlying 37 = some (.struct (Try.prog.fieldsOf 37)) := by kernel_rfl
theorem rayHt : Try.prog.stoodInHeld 37 = false := by kernel_rfl
set_option maxRecDepth 100000 in
theorem eqlRayT (x d y e : Int) (b : Bool) (hb : b = decide (x = y ∧ d = e)) (w : World) : Sem.run Try.prog (binOp .eql 37 (.agg #[.int .i64 x, .int .i64 d]) (.agg #[.int .i64 y, .int .i64 e])) w = .ok (.bool b) w := by
  subst hb
  rw [run_eql_struct, run_equalIn_agg _ _ _ _ _ rayUt rayHt]
  by_cases h1 : x = y <;> by_cases h2 : d = e <;> simp [Op.eqFields, go_sem, h1, h2]
def RBox (w : World) (blk : Nat) (x d : Int) : Prop := w.cell? ⟨blk, 0, none⟩ = some (.int .i64 x) ∧ w.cell? ⟨blk, 1, none⟩ = some (.int .i64 d)
theorem rbox_new {w0 w7 : World} (hb : Below w0.heap.size w0 w7) (x d : Int) : RBox (w7.alloc (.cells #[.int .i64 x, .int .i64 d] 37)) w7.heap.size x d ∧ Below w0.heap.size w0 (w7.alloc (.cells #[.int .i64 x, .int .i64 d] 37)) :=
  ⟨⟨by simp [go_sem], by simp [go_sem]⟩, bcall hb hb.size ((Below.refl _ _).alloc (Nat.le_refl _) _)⟩
theorem rbox_set {w0 w7 : World} {zb : Nat} {u0 u1 : Value} (hb : Below w0.heap.size w0 w7) (h0 : w0.heap.size ≤ zb) (z0 : w7.cell? ⟨zb, 0, none⟩ = some u0) (z1 : w7.cell? ⟨zb, 1, none⟩ = some u1) (x d : Int) :
    RBox ((w7.setCell ⟨zb, 0, none⟩ (.int .i64 x)).setCell ⟨zb, 1, none⟩ (.int .i64 d)) zb x d ∧ Below w0.heap.size w0 ((w7.setCell ⟨zb, 0, none⟩ (.int .i64 x)).setCell ⟨zb, 1, none⟩ (.int .i64 d)) := by
  refine ⟨⟨?_, ?_⟩, (hb.setCell (p := ⟨zb, 0, none⟩) h0 _).setCell (p := ⟨zb, 1, none⟩) h0 _⟩
  · rw [World.cell?_setCell_other _ _ _ _ (by simp)]
    exact World.cell?_setCell_same _ _ _ z0
  · exact World.cell?_setCell_same _ _ _ (by rw [World.cell?_setCell_other _ _ _ _ (by simp)]; exact z1)
theorem RBox.below {w w' : World} {blk : Nat} {x d : Int} (h : RBox w blk x d) (hb : Below w.heap.size w w') : RBox w' blk x d := ⟨keepc hb h.1, keepc hb h.2⟩
theorem par_told {wd : Int} {cs : List (Int × Int)} {U kz u1 u2 v0 v1 v2 tx td ox od wt : Int} {tb sb E1 E2 : Bool} (hk : kd cs U = kz) (h : par wd cs (U, u1, u2) (v0, v1, v2)) (hT : rayN wd cs U (turnD kz u1) = (tx, td, tb)) (hO : rayN wd cs U u1 = (ox, od, sb))
    (hwt : wt = if kz = 4 ∨ kz = 5 ∨ kz = 6 then u2 / 2 else u2) (hE1 : decide (tx = v0 ∧ td = v1) = E1) (hE2 : decide (ox = v0 ∧ od = v1) = E2) :
    kz ≠ 1 ∧ kz ≠ 7 ∧ wt = v2 ∧ ((tb = true ∧ E1 = true) ∨ ((kz = 4 ∨ kz = 5) ∧ sb = true ∧ E2 = true)) := by
  obtain ⟨⟨k1, k7⟩, hw, hr⟩ := h
  simp only at k1 k7 hw hr
  rw [hk] at k1 k7 hw hr
  rw [hT, hO] at hr
  refine ⟨k1, k7, hwt.trans hw.symm, ?_⟩
  simp only [Prod.mk.injEq] at hr
  rcases hr with ⟨r0, r1, r2⟩ | ⟨hg, r0, r1, r2⟩
  · exact Or.inl ⟨r2, by rw [← hE1]; exact decide_eq_true ⟨r0, r1⟩⟩
  · exact Or.inr ⟨hg, r2, by rw [← hE2]; exact decide_eq_true ⟨r0, r1⟩⟩

theorem ray_st {wd : Int} {cs : List (Int × Int)} {x d x2 d2 : Int} {b2 : Bool} (ev : rayN wd cs x d = (x2, d2, b2)) (a : Option Addr) (cap : Nat) (w : World) (h : CellsAt w a cs) (hm : cs.length ≤ 1048576) :
    Calls Try.prog 10 #[.agg #[.int .i64 wd, .slice a cs.length cap], .int .i64 x, .int .i64 d] w fun e w' => e = .returned (.tuple #[.agg #[.int .i64 x2, .int .i64 d2], .bool b2]) ∧ Below w.heap.size w w' := by
  have := implRayNext_any wd a cap cs w h hm x d
  rw [ev] at this
  exact this

set_option maxRecDepth 100000 in
/-- Too long a code. -/
theorem big (a : Option Addr) (n cap : Nat) (f : Nat → Int) (w : World) (h : BytesAt w a n f) (hm : n ≤ cap ∧ cap ≤ 9223372036854775807) (hbig : 1048576 < n) :
    Calls Try.prog 3 #[.slice a n cap] w fun e w' => e = .returned (.bool true) ∧ Below w.heap.size w w' := by
  have hb : (1048576 : Int) < (n : Int) := by omega
  go_enter Try.func3, Try.ntmps3
  go_wp2
  go_ret
  exact ⟨rfl, Below.refl _ _⟩

set_option maxRecDepth 100000 in
set_option maxHeartbeats 4000000 in
theorem small (a : Option Addr) (n cap : Nat) (f : Nat → Int) (w : World) (h : BytesAt w a n f) (hm : n ≤ cap ∧ cap ≤ 9223372036854775807) (hsm : n ≤ 1048576) :
    Calls Try.prog 3 #[.slice a n cap] w fun e w' => e = .returned (.bool true) ∧ Below w.heap.size w w' := by
  have hb : (n : Int) ≤ 1048576 := by omega
  go_enter Try.func3, Try.ntmps3
  go_wp2_with fail
  refine (drawTrailVisits_any a n cap f w h hsm hm.1 hm.2).mono ?_
  rintro e w1 ⟨wd, a1, c1, cs, k, rfl, hC1, hl1, hk1, hb_w1⟩
  have hz_w1 := hb_w1.size
  try simp at hz_w1
  have hbS1 : Below w1.heap.size w1 (w1.alloc (.cells #[.int .i64 wd, .slice a1 cs.length c1] 25)) := (by repeat (first | exact Below.refl _ _ | refine Below.alloc ?_ (by first | exact Nat.le_refl _ | (simp; done) | (simp; omega)) _ | refine Below.drew ?_ | refine Below.setCell ?_ (by first | exact Nat.le_refl _ | (simp; done) | (simp; omega)) _))
  replace hC1 := hC1.below hbS1
  have g0 : (w1.alloc (.cells #[.int .i64 wd, .slice a1 cs.length c1] 25)).cell? ⟨w1.heap.size, 0, none⟩ = some (.int .i64 wd) := by simp [go_sem]
  have g1 : (w1.alloc (.cells #[.int .i64 wd, .slice a1 cs.length c1] 25)).cell? ⟨w1.heap.size, 1, none⟩ = some (.slice a1 cs.length c1) := by simp [go_sem]
  have hBs1 := bcall hb_w1 (by omega) hbS1
  clear hb_w1
  clear hbS1
  obtain ⟨L, hL⟩ : ∃ L, trailT wd cs k = L := ⟨_, rfl⟩
  have HL : Hid (trailT wd cs k = L) := hL
  obtain ⟨kv1, kv2, kv3, kv4⟩ := visits_known hL
  obtain ⟨VS, hVS⟩ : ∃ VS, L.1 = VS := ⟨_, rfl⟩
  have EX : Hid ((trailT wd cs k).1 = VS) := by show _ = _; rw [hL]; exact hVS
  have HX : Hid (L.1 = VS) := hVS
  rw [hVS] at kv1 kv2 kv3 kv4
  have KV1 : Hid (∀ u ∈ VS, 0 ≤ u.1 ∧ u.1 < (cs.length : Int)) := kv1
  have KV4 : Hid (∀ u ∈ VS, (0 ≤ u.2.1 ∧ u.2.1 ≤ 3) ∧ 1 ≤ u.2.2 ∧ u.2.2 ≤ 64) := kv4
  have hlen : VS.length ≤ 1000000 := by omega
  clear kv1 kv3 kv4 hVS hL
  go_wp2_with fail
  refine (implVisitsR EX.out a1 c1 _ hC1 (by omega)).mono ?_
  rintro e w2 ⟨a2, c2, rfl, hR2, hb_w2⟩
  have hz_w2 := hb_w2.size
  try simp at hz_w2
  replace g0 := keepc hb_w2 g0; replace g1 := keepc hb_w2 g1
  replace hC1 := hC1.below hb_w2
  have hB_w2 := bcall hBs1 (by first | omega | (simp; omega)) hb_w2
  clear hBs1 hb_w2
  go_wp2_with fail
  refine (specVisitsR EX.out a1 c1 _ hC1 (by omega)).mono ?_
  rintro e w3 ⟨a3, c3, rfl, hR3, hb_w3⟩
  have hz_w3 := hb_w3.size
  try simp at hz_w3
  replace g0 := keepc hb_w3 g0; replace g1 := keepc hb_w3 g1
  replace hC1 := hC1.below hb_w3
  replace hR2 := hR2.below hb_w3
  have hB_w3 := bcall hB_w2 (by first | omega | (simp; omega)) hb_w3
  clear hB_w2 hb_w3
  go_wp2_with fail
  refine (llVisits_same a2 a3 c2 c3 VS _ hR2 hR3 hlen).mono ?_
  rintro e w4 ⟨rfl, hb_w4⟩
  have hz_w4 := hb_w4.size
  try simp at hz_w4
  replace g0 := keepc hb_w4 g0; replace g1 := keepc hb_w4 g1
  replace hC1 := hC1.below hb_w4
  replace hR2 := hR2.below hb_w4
  replace hR3 := hR3.below hb_w4
  have hB_w4 := bcall hB_w3 (by first | omega | (simp; omega)) hb_w4
  clear hB_w3 hb_w4
  go_wp2_with fail
  refine (llSight_any wd a1 c1 cs _ hC1 (by omega) k).mono ?_
  rintro e w5 ⟨rfl, hb_w5⟩
  have hz_w5 := hb_w5.size
  try simp at hz_w5
  replace g0 := keepc hb_w5 g0; replace g1 := keepc hb_w5 g1
  replace hC1 := hC1.below hb_w5
  replace hR2 := hR2.below hb_w5
  replace hR3 := hR3.below hb_w5
  have hB_w5 := bcall hB_w4 (by first | omega | (simp; omega)) hb_w5
  clear hB_w4 hb_w5
  clear hR3
  rcases hs : inS wd cs k with _ | _
  · go_wp2_with fail
    refine (specVisitsR EX.out a1 c1 _ hC1 (by omega)).mono ?_
    rintro e w6 ⟨a6, c6, rfl, hR6, hb_w6⟩
    have hz_w6 := hb_w6.size
    try simp at hz_w6
    replace g0 := keepc hb_w6 g0; replace g1 := keepc hb_w6 g1
    replace hC1 := hC1.below hb_w6
    replace hR2 := hR2.below hb_w6
    have hB_w6 := bcall hB_w5 (by first | omega | (simp; omega)) hb_w6
    clear hB_w5 hb_w6
    go_wp2_with fail
    refine (llVisits_same a2 a6 c2 c6 VS _ hR2 hR6 hlen).mono ?_
    rintro e w7 ⟨rfl, hb_w7⟩
    have hz_w7 := hb_w7.size
    try simp at hz_w7
    replace g0 := keepc hb_w7 g0; replace g1 := keepc hb_w7 g1
    replace hC1 := hC1.below hb_w7
    replace hR2 := hR2.below hb_w7
    replace hR6 := hR6.below hb_w7
    have hB_w7 := bcall hB_w6 (by first | omega | (simp; omega)) hb_w7
    clear hB_w6 hb_w7
    go_wp2
    go_ret
    exact ⟨rfl, hB_w7⟩
  · obtain ⟨xx, dd, hr⟩ := inS_ray' hs
    obtain ⟨rest, hrest⟩ := trail_first hs hr
    rw [EX.out] at hrest
    have hpos : 0 < VS.length := by rw [hrest]; simp
    have L1 : 0 < cs.length := by
      have := okG_lenD wd cs (inS_ok hs)
      omega
    have HPAR : Hid (∀ i, 1 ≤ i → i < VS.length → ∃ m, m < i ∧ par wd cs (VS.getD m (0, 0, 0)) (VS.getD i (0, 0, 0))) := by
      intro i h1 h2
      obtain ⟨j, rfl⟩ : ∃ j, i = j + 1 := ⟨i - 1, by omega⟩
      exact trail_par EX.out h2
    obtain ⟨b2, o2, ea2, hrc⟩ : ∃ b off, a2 = some ⟨b, off, none⟩ ∧ ∀ i, i < VS.length → w5.cell? ⟨b, off + i * 3, none⟩ = some (.int .i64 (VS.getD i (0, 0, 0)).1) ∧ w5.cell? ⟨b, off + i * 3 + 1, none⟩ = some (.int .i64 (VS.getD i (0, 0, 0)).2.1) ∧ w5.cell? ⟨b, off + i * 3 + 2, none⟩ = some (.int .i64 (VS.getD i (0, 0, 0)).2.2) := by
      rcases hR2 with q | ⟨b, off, e, _, hc⟩
      · rw [q] at hpos; simp at hpos
      · exact ⟨b, off, e, hc⟩
    obtain ⟨b1, o1, ea1, hcc⟩ : ∃ b off, a1 = some ⟨b, off, none⟩ ∧ ∀ i, i < cs.length → w5.cell? ⟨b, off + i * 2, none⟩ = some (.int .i64 (cs.getD i (0, 0)).1) := by
      rcases hC1 with q | ⟨b, off, e, _, hc⟩
      · rw [q] at L1; simp at L1
      · exact ⟨b, off, e, fun i hi => (hc i hi).1⟩
    have HRC : Hid (∀ i, i < VS.length → w5.cell? ⟨b2, o2 + i * 3, none⟩ = some (.int .i64 (VS.getD i (0, 0, 0)).1) ∧ w5.cell? ⟨b2, o2 + i * 3 + 1, none⟩ = some (.int .i64 (VS.getD i (0, 0, 0)).2.1) ∧ w5.cell? ⟨b2, o2 + i * 3 + 2, none⟩ = some (.int .i64 (VS.getD i (0, 0, 0)).2.2)) := hrc
    have HCC : Hid (∀ i, i < cs.length → w5.cell? ⟨b1, o1 + i * 2, none⟩ = some (.int .i64 (cs.getD i (0, 0)).1)) := hcc
    subst ea1
    subst ea2
    have G0 : Hid (w5.cell? ⟨w1.heap.size, 0, none⟩ = some (.int .i64 wd)) := g0
    have G1 : Hid (w5.cell? ⟨w1.heap.size, 1, none⟩ = some (.slice (some ⟨b1, o1, none⟩) cs.length c1)) := g1
    clear hrest hr hs hrc hcc hR2 g0 g1
    go_wp2_with fail
    go_loopw [6] (fun ii wr => ∃ i : Nat, 1 ≤ i ∧ i ≤ VS.length ∧ ii = .int .i64 i ∧ Below w5.heap.size w5 wr) (fun ii _ => VS.length - (intOf ii).toNat)
    case atStart => exact ⟨1, by omega, by omega, rfl, Below.refl _ _⟩
    case round =>
      rename World => wo
      obtain ⟨i, hi1, hi, rfl, hbo⟩ := hrel
      by_cases hlt : i < VS.length
      · obtain ⟨m0, hm0, hpar⟩ := HPAR.out i hi1 hlt
        have hri := HRC.out i hlt
        obtain ⟨tv, etv⟩ : ∃ t, VS.getD i (0, 0, 0) = t := ⟨_, rfl⟩
        rw [etv] at hri hpar
        obtain ⟨v0, v1, v2⟩ := tv
        simp only at hri
        have HRi : Hid (w5.cell? ⟨b2, o2 + i * 3, none⟩ = some (.int .i64 v0) ∧ w5.cell? ⟨b2, o2 + i * 3 + 1, none⟩ = some (.int .i64 v1) ∧ w5.cell? ⟨b2, o2 + i * 3 + 2, none⟩ = some (.int .i64 v2)) := hri
        have HPi : Hid (par wd cs (VS.getD m0 (0, 0, 0)) (v0, v1, v2)) := hpar
        have hiI : (i : Int) < (VS.length : Int) := by omega
        clear hri hpar etv
        go_wp2_with fail
        go_loopw [7, 8] (fun ff nn wr => ∃ (n : Nat) (fb : Bool), n ≤ i ∧ nn = .int .i64 n ∧ ff = .bool fb ∧ (m0 < n → fb = true) ∧ Below w5.heap.size w5 wr) (fun _ nn _ => i - (intOf nn).toNat)
        case atStart => exact ⟨0, false, by omega, rfl, rfl, fun h => by omega, hbo⟩
        case round =>
          rename World => wp
          obtain ⟨n, fb, hni, rfl, rfl, hfb, hbp⟩ := hrel
          by_cases hn : n < i
          · have hnI : (n : Int) < (i : Int) := by omega
            have hnV : (n : Int) < (VS.length : Int) := by omega
            have hrn := HRC.out n (by omega)
            obtain ⟨tu, etu⟩ : ∃ t, VS.getD n (0, 0, 0) = t := ⟨_, rfl⟩
            have hmem : tu ∈ VS := by rw [← etu]; simp [List.getElem?_eq_getElem (show n < VS.length by omega)]
            obtain ⟨hu1, hu2⟩ := KV1.out tu hmem
            obtain ⟨_, hu3, hu4⟩ := KV4.out tu hmem
            have HPm0 : n = m0 → par wd cs tu (v0, v1, v2) := fun e => by rw [← etu, e]; exact HPi.out
            rw [etu] at hrn
            obtain ⟨u0, u1, u2⟩ := tu
            simp only at hrn hu1 hu2 hu3 hu4
            obtain ⟨U, rfl⟩ := Int.eq_ofNat_of_zero_le hu1
            have hUl : U < cs.length := by omega
            have hk := HCC.out U hUl
            obtain ⟨kz, ekz⟩ : ∃ k, (cs.getD U (0, 0)).1 = k := ⟨_, rfl⟩
            have HKD : Hid (kd cs (U : Int) = kz) := by show _ = _; unfold kd; rw [Int.toNat_natCast]; exact ekz
            rw [ekz] at hk
            have HRn : Hid (w5.cell? ⟨b2, o2 + n * 3, none⟩ = some (.int .i64 (U : Int)) ∧ w5.cell? ⟨b2, o2 + n * 3 + 1, none⟩ = some (.int .i64 u1) ∧ w5.cell? ⟨b2, o2 + n * 3 + 2, none⟩ = some (.int .i64 u2)) := hrn
            have HK0 : Hid (w5.cell? ⟨b1, o1 + U * 2, none⟩ = some (.int .i64 kz)) := hk
            have HPm : Hid (n = m0 → par wd cs ((U : Int), u1, u2) (v0, v1, v2)) := HPm0
            obtain ⟨⟨tx, td, tb⟩, hT1⟩ : ∃ p, rayN wd cs (U : Int) (turnD kz u1) = p := ⟨_, rfl⟩
            obtain ⟨⟨ox, od, sb⟩, hT2⟩ : ∃ p, rayN wd cs (U : Int) u1 = p := ⟨_, rfl⟩
            have HT1 : Hid (rayN wd cs (U : Int) (turnD kz u1) = (tx, td, tb)) := hT1
            have HT2 : Hid (rayN wd cs (U : Int) u1 = (ox, od, sb)) := hT2
            obtain ⟨E1, hE1⟩ : ∃ E, decide (tx = v0 ∧ td = v1) = E := ⟨_, rfl⟩
            obtain ⟨E2, hE2⟩ : ∃ E, decide (ox = v0 ∧ od = v1) = E := ⟨_, rfl⟩
            have HE1 : Hid (decide (tx = v0 ∧ td = v1) = E1) := hE1
            have HE2 : Hid (decide (ox = v0 ∧ od = v1) = E2) := hE2
            clear hrn etu hmem HPm0 ekz hk hT1 hT2 hE1 hE2
            have hCC := hC1.below hbp
            have g0 := keepc hbp G0.out
            have g1 := keepc hbp G1.out
            have p0 := keepc hbp (HRn.out).1
            have p1 := keepc hbp (HRn.out).2.1
            have p2 := keepc hbp (HRn.out).2.2
            have q0 := keepc hbp (HRi.out).1
            have q1 := keepc hbp (HRi.out).2.1
            have q2 := keepc hbp (HRi.out).2.2
            have k0 := keepc hbp HK0.out
            go_wp2
            go_cut [9] from 52 to 171 (fun sA wc => sA = .int .i64 kz ∧ Below w5.heap.size w5 wc)
            case first =>
              go_quiet (fail)
              have hbq : Below w5.heap.size w5 (wp.drewN nq) := ⟨hbp.os, hbp.tape, hbp.output, hbp.size, hbp.block⟩
              go_wp2_with fail
              go_meet
              case rel => exact ⟨rfl, hbq⟩
            case rest =>
              rename World => wq
              obtain ⟨rfl, hbq⟩ := hcut
              clear hCC g0 g1 p0 p1 p2 q0 q1 q2 k0
              have hCC := hC1.below hbq
              have g0 := keepc hbq G0.out
              have g1 := keepc hbq G1.out
              have p0 := keepc hbq (HRn.out).1
              have p1 := keepc hbq (HRn.out).2.1
              have p2 := keepc hbq (HRn.out).2.2
              have q0 := keepc hbq (HRi.out).1
              have q1 := keepc hbq (HRi.out).2.1
              have q2 := keepc hbq (HRi.out).2.2
              have k0 := keepc hbq HK0.out
              go_upto_region 16 with fail
              obtain ⟨HB, hHB⟩ : ∃ B, decide (kz = 4 ∨ kz = 5 ∨ kz = 6) = B := ⟨_, rfl⟩
              have HHB : Hid (decide (kz = 4 ∨ kz = 5 ∨ kz = 6) = HB) := hHB
              clear hHB
              go_cut [81] from 52 to 171 (fun sA wc => sA = .bool HB ∧ wq = wc)
              case first =>
                by_cases h6 : kz = 6
                · have hh : HB = true := by rw [← HHB.out]; simp [h6]
                  have bz : (kz == 6) = true := by simp [h6]
                  clear h6
                  go_wp2_with fail
                  go_meet
                  case rel => exact ⟨by rw [hh], by first | rfl | trivial⟩
                have bz : (kz == 6) = false := by simp [h6]
                by_cases h4 : kz = 4
                · have hh : HB = true := by rw [← HHB.out]; simp [h4]
                  have by' : (kz == 4) = true := by simp [h4]
                  clear h6 h4
                  go_wp2_with fail
                  go_meet
                  case rel => exact ⟨by rw [hh], by first | rfl | trivial⟩
                have by' : (kz == 4) = false := by simp [h4]
                by_cases h5 : kz = 5
                · have hh : HB = true := by rw [← HHB.out]; simp [h5]
                  have bx' : (kz == 5) = true := by simp [h5]
                  clear h6 h4 h5
                  go_wp2_with fail
                  go_meet
                  case rel => exact ⟨by rw [hh], by first | rfl | trivial⟩
                · have hh : HB = false := by rw [← HHB.out]; simp [h6, h4, h5]
                  have bx' : (kz == 5) = false := by simp [h5]
                  clear h6 h4 h5
                  go_wp2_with fail
                  go_meet
                  case rel => exact ⟨by rw [hh], by first | rfl | trivial⟩
              case rest =>
                obtain ⟨rfl, rfl⟩ := hcut
                obtain ⟨wt, hwt⟩ : ∃ wt, (if kz = 4 ∨ kz = 5 ∨ kz = 6 then u2 / 2 else u2) = wt := ⟨_, rfl⟩
                have HWT : Hid ((if kz = 4 ∨ kz = 5 ∨ kz = 6 then u2 / 2 else u2) = wt) := hwt
                have PARb : Hid (n = m0 → kz ≠ 1 ∧ kz ≠ 7 ∧ wt = v2 ∧ ((tb = true ∧ E1 = true) ∨ ((kz = 4 ∨ kz = 5) ∧ sb = true ∧ E2 = true))) := fun e => par_told HKD.out (HPm.out e) HT1.out HT2.out HWT.out.symm HE1.out HE2.out
                have hwb1 : 0 ≤ wt := by rw [← hwt]; split <;> omega
                have hwb2 : wt ≤ 64 := by rw [← hwt]; split <;> omega
                clear hwt
                go_upto_if 81 with fail
                go_cut [10] from 52 to 171 (fun sA wc => sA = .int .i64 wt ∧ Below w5.heap.size w5 wc)
                case first =>
                  have e1 : u2.tdiv 2 = u2 / 2 := Int.tdiv_eq_ediv_of_nonneg (by omega)
                  have e2 : IntKind.i64.wrap (u2.tdiv 2) = u2 / 2 := by rw [e1]; exact IntWalk.i64_in _ (by omega)
                  rcases HB with _ | _
                  · have hh : u2 = wt := by rw [← HWT.out, if_neg (by simpa using HHB.out)]
                    clear e1 e2
                    go_wp2_with fail
                    go_meet
                    case rel => exact ⟨by first | rfl | rw [hh] | (simp [hh]; done), hbq⟩
                  · have hh : u2 / 2 = wt := by rw [← HWT.out, if_pos (by simpa using HHB.out)]
                    rw [hh] at e1 e2
                    clear hh
                    go_wp2_with fail
                    go_meet
                    case rel => exact ⟨by first | rfl | (rw [e2]) | (simp; done), hbq⟩
                case rest =>
                  rename World => wq2
                  obtain ⟨rfl, hbq2⟩ := hcut
                  clear hCC g0 g1 p0 p1 p2 q0 q1 q2 k0
                  have hCC := hC1.below hbq2
                  have g0 := keepc hbq2 G0.out
                  have g1 := keepc hbq2 G1.out
                  have p0 := keepc hbq2 (HRn.out).1
                  have p1 := keepc hbq2 (HRn.out).2.1
                  have p2 := keepc hbq2 (HRn.out).2.2
                  have q0 := keepc hbq2 (HRi.out).1
                  have q1 := keepc hbq2 (HRi.out).2.1
                  have q2 := keepc hbq2 (HRi.out).2.2
                  have k0 := keepc hbq2 HK0.out
                  have hbU : Below wq2.heap.size wq2 (wq2.alloc (.cells #[.int .i64 0, .int .i64 0] 37)) := (by repeat (first | exact Below.refl _ _ | refine Below.alloc ?_ (by first | exact Nat.le_refl _ | (simp; done) | (simp; omega)) _ | refine Below.drew ?_ | refine Below.setCell ?_ (by first | exact Nat.le_refl _ | (simp; done) | (simp; omega)) _))
                  have nv1 : w1.heap.size ≠ wq2.heap.size := Nat.ne_of_lt (World.block_lt_of_cell? _ _ g0)
                  have nv2 : b2 ≠ wq2.heap.size := Nat.ne_of_lt (World.block_lt_of_cell? _ _ p0)
                  go_wp2
                  go_cut [11, 12] from 52 to 171 (fun sA sB wc => ∃ blk : Nat, sA = .pointer (some ⟨blk, 0, none⟩) ∧ sB = .bool tb ∧ RBox wc blk tx td ∧ Below wq2.heap.size wq2 wc)
                  case first => as_aux_lemma =>
                    go_region_held3 (fun w' => w'.cell? ⟨w1.heap.size, 0, none⟩ = some (.int .i64 wd) ∧ w'.cell? ⟨w1.heap.size, 1, none⟩ = some (.slice (some ⟨b1, o1, none⟩) cs.length c1) ∧ w'.cell? ⟨b2, o2 + n * 3, none⟩ = some (.int .i64 (U : Int)) ∧ w'.cell? ⟨b2, o2 + n * 3 + 1, none⟩ = some (.int .i64 u1))
                      (first
                        | exact ⟨g0, g1, p0, p1⟩
                        | exact ⟨keepc hbU g0, keepc hbU g1, keepc hbU p0, keepc hbU p1⟩
                        | exact ⟨keepc hba g0, keepc hba g1, keepc hba p0, keepc hba p1⟩
                        | exact ⟨keepc hbaU g0, keepc hbaU g1, keepc hbaU p0, keepc hbaU p1⟩
                        | exact ⟨keepc hbb g0, keepc hbb g1, keepc hbb p0, keepc hbb p1⟩
                        | exact ⟨keepc hbbU g0, keepc hbbU g1, keepc hbbU p0, keepc hbbU p1⟩
                        | exact ⟨keepc hbbV g0, keepc hbbV g1, keepc hbbV p0, keepc hbbV p1⟩
                        | exact ⟨setc nv1 (setc nv1 (keepc hbb g0)), setc nv1 (setc nv1 (keepc hbb g1)), setc nv2 (setc nv2 (keepc hbb p0)), setc nv2 (setc nv2 (keepc hbb p1))⟩
                        | exact ⟨setc nw1 (setc nw1 (keepc hbb g0)), setc nw1 (setc nw1 (keepc hbb g1)), setc nw2 (setc nw2 (keepc hbb p0)), setc nw2 (setc nw2 (keepc hbb p1))⟩
                        | go_keep)
                      (first
                        | (go_at_call 11; have hguard := (rfl : wq2 = wq2); refine (implDirTurn_any kz u1 wq2).mono ?_; rintro e wa ⟨rfl, hba⟩; have hbaU : Below wq2.heap.size wq2 (wa.alloc (.cells #[.int .i64 0, .int .i64 0] 37)) := bcall hba hba.size ((Below.refl _ _).alloc (Nat.le_refl _) _); have hbY : Below wa.heap.size wa (wa.alloc (.cells #[.int .i64 0, .int .i64 0] 37)) := (Below.refl _ _).alloc (Nat.le_refl _) _; have nw1 : w1.heap.size ≠ wa.heap.size := Nat.ne_of_lt (World.block_lt_of_cell? _ _ (keepc hba g0)); have nw2 : b2 ≠ wa.heap.size := Nat.ne_of_lt (World.block_lt_of_cell? _ _ (keepc hba p0)))
                        | (go_at_call 11; refine (implDirTurn_any kz u1 wq2.drew).mono ?_; rintro e wa ⟨rfl, hba'⟩; have hba : Below wq2.heap.size wq2 wa := bdrew hba'; have hbaU : Below wq2.heap.size wq2 (wa.alloc (.cells #[.int .i64 0, .int .i64 0] 37)) := bcall hba hba.size ((Below.refl _ _).alloc (Nat.le_refl _) _); have hbY : Below wa.heap.size wa (wa.alloc (.cells #[.int .i64 0, .int .i64 0] 37)) := (Below.refl _ _).alloc (Nat.le_refl _) _; have nw1 : w1.heap.size ≠ wa.heap.size := Nat.ne_of_lt (World.block_lt_of_cell? _ _ (keepc hba g0)); have nw2 : b2 ≠ wa.heap.size := Nat.ne_of_lt (World.block_lt_of_cell? _ _ (keepc hba p0)))
                        | (go_at_call 11; refine (implDirTurn_any kz u1 _).mono ?_; rintro e wa ⟨rfl, hba'⟩; have hba : Below wq2.heap.size wq2 wa := (by first | exact bcall hbU hbU.size hba' | exact bcall hbU hbU.size (bdrew hba')); have zz : wq2.heap.size < wa.heap.size := (by have := hba'.size; simp at this; omega); have z0 : wa.cell? ⟨wq2.heap.size, 0, none⟩ = some (.int .i64 0) := keepc hba' (by simp [go_sem]); have z1 : wa.cell? ⟨wq2.heap.size, 1, none⟩ = some (.int .i64 0) := keepc hba' (by simp [go_sem]); have zf0 : wa.frozen? ⟨wq2.heap.size, 0, none⟩ = false := keepf hba' (v := .int .i64 0) (by simp [go_sem]) (by simp [go_sem]); have zf1 : wa.frozen? ⟨wq2.heap.size, 1, none⟩ = false := keepf hba' (v := .int .i64 0) (by simp [go_sem]) (by simp [go_sem]))
                        | (go_at_call 10; refine (ray_st HT1.out (some ⟨b1, o1, none⟩) c1 _ (by first | exact hCC.below hba | exact (hCC.below hba).below (Below.refl _ _).drew) (by omega)).mono ?_; rintro e wb ⟨rfl, hbb'⟩; have hbx : Below wa.heap.size wa wb := (by first | exact hbb' | exact bdrew hbb'); have hbb : Below wq2.heap.size wq2 wb := bcall hba hba.size hbx; (try replace zf0 := keepf hbx z0 zf0); (try replace zf1 := keepf hbx z1 zf1); (try replace z0 := keepc hbx z0); (try replace z1 := keepc hbx z1); have hbbU : Below wq2.heap.size wq2 (wb.alloc (.cells #[.int .i64 0, .int .i64 0] 37)) := bcall hbb hbb.size ((Below.refl _ _).alloc (Nat.le_refl _) _); have hbbV : Below wq2.heap.size wq2 (wb.alloc (.cells #[.int .i64 tx, .int .i64 td] 37)) := bcall hbb hbb.size ((Below.refl _ _).alloc (Nat.le_refl _) _))
                        | (go_at_call 10; refine (ray_st HT1.out (some ⟨b1, o1, none⟩) c1 _ (by first | exact (hCC.below hba).below hbY | exact ((hCC.below hba).below hbY).below (Below.refl _ _).drew) (by omega)).mono ?_; rintro e wb ⟨rfl, hbb'⟩; have hbb : Below wq2.heap.size wq2 wb := (by first | exact bcall hbaU hbaU.size hbb' | exact bcall hbaU hbaU.size (bdrew hbb')); have zz : wa.heap.size < wb.heap.size := (by have := hbb'.size; simp at this; omega); have z0 : wb.cell? ⟨wa.heap.size, 0, none⟩ = some (.int .i64 0) := keepc hbb' (by simp [go_sem]); have z1 : wb.cell? ⟨wa.heap.size, 1, none⟩ = some (.int .i64 0) := keepc hbb' (by simp [go_sem]); have zf0 : wb.frozen? ⟨wa.heap.size, 0, none⟩ = false := keepf hbb' (v := .int .i64 0) (by simp [go_sem]) (by simp [go_sem]); have zf1 : wb.frozen? ⟨wa.heap.size, 1, none⟩ = false := keepf hbb' (v := .int .i64 0) (by simp [go_sem]) (by simp [go_sem]))
                        | fail)
                    all_goals
                      go_wp2_with fail
                      go_meet
                      case rel => first | exact ⟨_, rfl, rfl, rbox_new hbb tx td⟩ | exact ⟨_, rfl, rfl, rbox_set hbb (Nat.le_refl _) z0 z1 tx td⟩ | exact ⟨_, rfl, rfl, rbox_set hbb hba.size z0 z1 tx td⟩ | exact ⟨_, rfl, rfl, (rbox_new hbb tx td).1, (rbox_new hbb tx td).2.drew⟩ | exact ⟨_, rfl, rfl, (rbox_set hbb (Nat.le_refl _) z0 z1 tx td).1, (rbox_set hbb (Nat.le_refl _) z0 z1 tx td).2.drew⟩ | exact ⟨_, rfl, rfl, (rbox_set hbb hba.size z0 z1 tx td).1, (rbox_set hbb hba.size z0 z1 tx td).2.drew⟩
                  case rest =>
                    rename World => wr
                    obtain ⟨blktx, rfl, rfl, hBtx, hbwr⟩ := hcut
                    have hbr := bcall hbq2 hbq2.size hbwr
                    clear hCC g0 g1 p0 p1 p2 q0 q1 q2 k0 hbU
                    have hCC := hC1.below hbr
                    have g0 := keepc hbr G0.out
                    have g1 := keepc hbr G1.out
                    have p0 := keepc hbr (HRn.out).1
                    have p1 := keepc hbr (HRn.out).2.1
                    have p2 := keepc hbr (HRn.out).2.2
                    have q0 := keepc hbr (HRi.out).1
                    have q1 := keepc hbr (HRi.out).2.1
                    have q2 := keepc hbr (HRi.out).2.2
                    have k0 := keepc hbr HK0.out
                    have hbU : Below wr.heap.size wr (wr.alloc (.cells #[.int .i64 0, .int .i64 0] 37)) := (by repeat (first | exact Below.refl _ _ | refine Below.alloc ?_ (by first | exact Nat.le_refl _ | (simp; done) | (simp; omega)) _ | refine Below.drew ?_ | refine Below.setCell ?_ (by first | exact Nat.le_refl _ | (simp; done) | (simp; omega)) _))
                    have nv1 : w1.heap.size ≠ wr.heap.size := Nat.ne_of_lt (World.block_lt_of_cell? _ _ g0)
                    have nv2 : b2 ≠ wr.heap.size := Nat.ne_of_lt (World.block_lt_of_cell? _ _ p0)
                    go_wp2
                    go_cut [13, 14] from 52 to 171 (fun sA sB wc => ∃ blk : Nat, sA = .pointer (some ⟨blk, 0, none⟩) ∧ sB = .bool sb ∧ RBox wc blk ox od ∧ Below wr.heap.size wr wc)
                    case first => as_aux_lemma =>
                      go_region_held3 (fun w' => w'.cell? ⟨w1.heap.size, 0, none⟩ = some (.int .i64 wd) ∧ w'.cell? ⟨w1.heap.size, 1, none⟩ = some (.slice (some ⟨b1, o1, none⟩) cs.length c1) ∧ w'.cell? ⟨b2, o2 + n * 3, none⟩ = some (.int .i64 (U : Int)) ∧ w'.cell? ⟨b2, o2 + n * 3 + 1, none⟩ = some (.int .i64 u1))
                        (first
                          | exact ⟨g0, g1, p0, p1⟩
                          | exact ⟨keepc hbU g0, keepc hbU g1, keepc hbU p0, keepc hbU p1⟩
                          | exact ⟨keepc hbb g0, keepc hbb g1, keepc hbb p0, keepc hbb p1⟩
                          | exact ⟨keepc hbbU g0, keepc hbbU g1, keepc hbbU p0, keepc hbbU p1⟩
                          | exact ⟨keepc hbbV g0, keepc hbbV g1, keepc hbbV p0, keepc hbbV p1⟩
                          | exact ⟨setc nv1 (setc nv1 (keepc hbb g0)), setc nv1 (setc nv1 (keepc hbb g1)), setc nv2 (setc nv2 (keepc hbb p0)), setc nv2 (setc nv2 (keepc hbb p1))⟩
                          | go_keep)
                        (first
                          | (go_at_call 10; refine (ray_st HT2.out (some ⟨b1, o1, none⟩) c1 _ (by first | exact hCC | exact hCC.below (Below.refl _ _).drew) (by omega)).mono ?_; rintro e wb ⟨rfl, hbb'⟩; have hbb : Below wr.heap.size wr wb := (by first | exact hbb' | exact bdrew hbb'); have hbbU : Below wr.heap.size wr (wb.alloc (.cells #[.int .i64 0, .int .i64 0] 37)) := bcall hbb hbb.size ((Below.refl _ _).alloc (Nat.le_refl _) _); have hbbV : Below wr.heap.size wr (wb.alloc (.cells #[.int .i64 ox, .int .i64 od] 37)) := bcall hbb hbb.size ((Below.refl _ _).alloc (Nat.le_refl _) _))
                          | (go_at_call 10; refine (ray_st HT2.out (some ⟨b1, o1, none⟩) c1 _ (by first | exact hCC.below hbU | exact (hCC.below hbU).below (Below.refl _ _).drew) (by omega)).mono ?_; rintro e wb ⟨rfl, hbb'⟩; have hbb : Below wr.heap.size wr wb := (by first | exact bcall hbU hbU.size hbb' | exact bcall hbU hbU.size (bdrew hbb')); have zz : wr.heap.size < wb.heap.size := (by have := hbb'.size; simp at this; omega); have z0 : wb.cell? ⟨wr.heap.size, 0, none⟩ = some (.int .i64 0) := keepc hbb' (by simp [go_sem]); have z1 : wb.cell? ⟨wr.heap.size, 1, none⟩ = some (.int .i64 0) := keepc hbb' (by simp [go_sem]); have zf0 : wb.frozen? ⟨wr.heap.size, 0, none⟩ = false := keepf hbb' (v := .int .i64 0) (by simp [go_sem]) (by simp [go_sem]); have zf1 : wb.frozen? ⟨wr.heap.size, 1, none⟩ = false := keepf hbb' (v := .int .i64 0) (by simp [go_sem]) (by simp [go_sem]))
                          | fail)
                      all_goals
                        go_wp2_with fail
                        go_meet
                        case rel => first | exact ⟨_, rfl, rfl, rbox_new hbb ox od⟩ | exact ⟨_, rfl, rfl, rbox_set hbb (Nat.le_refl _) z0 z1 ox od⟩ | exact ⟨_, rfl, rfl, (rbox_new hbb ox od).1, (rbox_new hbb ox od).2.drew⟩ | exact ⟨_, rfl, rfl, (rbox_set hbb (Nat.le_refl _) z0 z1 ox od).1, (rbox_set hbb (Nat.le_refl _) z0 z1 ox od).2.drew⟩
                    case rest =>
                      rename World => ws
                      obtain ⟨blkox, rfl, rfl, hBox, hbws⟩ := hcut
                      have hBtx2 := hBtx.below hbws
                      have hbs := bcall hbr hbr.size hbws
                      clear hCC g0 g1 p0 p1 p2 q0 q1 q2 k0 hbU hBtx
                      have hCC := hC1.below hbs
                      have g0 := keepc hbs G0.out
                      have g1 := keepc hbs G1.out
                      have p0 := keepc hbs (HRn.out).1
                      have p1 := keepc hbs (HRn.out).2.1
                      have p2 := keepc hbs (HRn.out).2.2
                      have q0 := keepc hbs (HRi.out).1
                      have q1 := keepc hbs (HRi.out).2.1
                      have q2 := keepc hbs (HRi.out).2.2
                      have k0 := keepc hbs HK0.out
                      have hbU : Below ws.heap.size ws (ws.alloc (.cells #[.int .i64 0, .int .i64 0] 37)) := (by repeat (first | exact Below.refl _ _ | refine Below.alloc ?_ (by first | exact Nat.le_refl _ | (simp; done) | (simp; omega)) _ | refine Below.drew ?_ | refine Below.setCell ?_ (by first | exact Nat.le_refl _ | (simp; done) | (simp; omega)) _))
                      go_wp2
                      go_cut [15] from 52 to 171 (fun sA wc => ∃ blk : Nat, sA = .pointer (some ⟨blk, 0, none⟩) ∧ RBox wc blk v0 v1 ∧ Below ws.heap.size ws wc)
                      case first => as_aux_lemma =>
                        go_region_held3 (fun w' => w'.cell? ⟨b2, o2 + i * 3, none⟩ = some (.int .i64 v0) ∧ w'.cell? ⟨b2, o2 + i * 3 + 1, none⟩ = some (.int .i64 v1))
                          (first
                            | exact ⟨q0, q1⟩
                            | exact ⟨keepc hbU q0, keepc hbU q1⟩
                            | go_keep)
                          (fail)
                        all_goals
                          go_wp2_with fail
                          go_meet
                          case rel => first | exact ⟨_, rfl, rbox_new (Below.refl _ _) v0 v1⟩ | exact ⟨_, rfl, (rbox_new (Below.refl _ _) v0 v1).1, (rbox_new (Below.refl _ _) v0 v1).2.drew⟩
                      case rest =>
                        rename World => wf
                        obtain ⟨blkv, rfl, hBv, hbwf⟩ := hcut
                        have hBtx3 := hBtx2.below hbwf
                        have hBox3 := hBox.below hbwf
                        have hbF := bcall hbs hbs.size hbwf
                        clear hCC g0 g1 p0 p1 p2 q0 q1 q2 k0 hbU hBtx2 hBox
                        obtain ⟨GL, hGL⟩ : ∃ G, decide (kz = 4 ∨ kz = 5) = G := ⟨_, rfl⟩
                        have HGL : Hid (decide (kz = 4 ∨ kz = 5) = GL) := hGL
                        obtain ⟨ST, hST⟩ : ∃ G, decide (kz = 1 ∨ kz = 7) = G := ⟨_, rfl⟩
                        have HST : Hid (decide (kz = 1 ∨ kz = 7) = ST) := hST
                        clear hGL hST
                        go_upto_region 21 with fail
                        go_cut [16] from 52 to 171 (fun sA wc => sA = .bool GL ∧ wf = wc)
                        case first =>
                          by_cases h4 : kz = 4
                          · have hh : GL = true := by rw [← HGL.out]; simp [h4]
                            have by' : (kz == 4) = true := by simp [h4]
                            clear h4
                            go_wp2_with fail
                            go_meet
                            case rel => exact ⟨by rw [hh], by first | rfl | trivial⟩
                          have by' : (kz == 4) = false := by simp [h4]
                          by_cases h5 : kz = 5
                          · have hh : GL = true := by rw [← HGL.out]; simp [h5]
                            have bx' : (kz == 5) = true := by simp [h5]
                            clear h4 h5
                            go_wp2_with fail
                            go_meet
                            case rel => exact ⟨by rw [hh], by first | rfl | trivial⟩
                          · have hh : GL = false := by rw [← HGL.out]; simp [h4, h5]
                            have bx' : (kz == 5) = false := by simp [h5]
                            clear h4 h5
                            go_wp2_with fail
                            go_meet
                            case rel => exact ⟨by rw [hh], by first | rfl | trivial⟩
                        case rest =>
                          obtain ⟨rfl, rfl⟩ := hcut
                          go_upto_region 22 with fail
                          go_cut [17] from 52 to 171 (fun sA wc => sA = .bool ST ∧ wf = wc)
                          case first =>
                            by_cases h1 : kz = 1
                            · have hh : ST = true := by rw [← HST.out]; simp [h1]
                              have by' : (kz == 1) = true := by simp [h1]
                              clear h1
                              go_wp2_with fail
                              go_meet
                              case rel => exact ⟨by rw [hh], by first | rfl | trivial⟩
                            have by' : (kz == 1) = false := by simp [h1]
                            by_cases h7 : kz = 7
                            · have hh : ST = true := by rw [← HST.out]; simp [h7]
                              have bx' : (kz == 7) = true := by simp [h7]
                              clear h1 h7
                              go_wp2_with fail
                              go_meet
                              case rel => exact ⟨by rw [hh], by first | rfl | trivial⟩
                            · have hh : ST = false := by rw [← HST.out]; simp [h1, h7]
                              have bx' : (kz == 7) = false := by simp [h7]
                              clear h1 h7
                              go_wp2_with fail
                              go_meet
                              case rel => exact ⟨by rw [hh], by first | rfl | trivial⟩
                          case rest =>
                            obtain ⟨rfl, rfl⟩ := hcut
                            have q2 := keepc hbF (HRi.out).2.2
                            obtain ⟨t0, t1⟩ := hBtx3
                            obtain ⟨s0, s1⟩ := hBox3
                            obtain ⟨x0, x1⟩ := hBv
                            have r1 := eqlRayT tx td v0 v1 E1 HE1.out.symm
                            have r2 := eqlRayT ox od v0 v1 E2 HE2.out.symm
                            have KEY : Hid (n = m0 → ST = false ∧ wt = v2 ∧ ((tb = true ∧ E1 = true) ∨ (GL = true ∧ sb = true ∧ E2 = true))) := fun e => by
                              obtain ⟨k1, k2, k3, k4⟩ := PARb.out e
                              refine ⟨by rw [← HST.out]; simp [k1, k2], k3, ?_⟩
                              rcases k4 with k4 | ⟨k4, k5⟩
                              · exact Or.inl k4
                              · exact Or.inr ⟨by rw [← HGL.out]; exact decide_eq_true k4, k5⟩
                            rcases fb with _ | _
                            · rcases ST with _ | _
                              · by_cases hw : wt = v2
                                · have bw : (wt == v2) = true := by simp [hw]
                                  clear hw
                                  rcases tb with _ | _
                                  · rcases GL with _ | _
                                    · have HN : m0 < n + 1 → false = true := fun hq => by
                                        have e : ¬ m0 < n := fun q => absurd (hfb q) (by simp)
                                        have key := KEY.out (by omega)
                                        simp at key
                                      as_aux_lemma =>
                                        go_wp2_with fail
                                        go_roundw
                                        case rel => exact ⟨n + 1, false, by omega, by go_num, rfl, HN, hbF⟩
                                        case measure => simp [intOf]; omega
                                    · rcases sb with _ | _
                                      · have HN : m0 < n + 1 → false = true := fun hq => by
                                          have e : ¬ m0 < n := fun q => absurd (hfb q) (by simp)
                                          have key := KEY.out (by omega)
                                          simp at key
                                        as_aux_lemma =>
                                          go_wp2_with fail
                                          go_roundw
                                          case rel => exact ⟨n + 1, false, by omega, by go_num, rfl, HN, hbF⟩
                                          case measure => simp [intOf]; omega
                                      · rcases E2 with _ | _
                                        · have HN : m0 < n + 1 → false = true := fun hq => by
                                            have e : ¬ m0 < n := fun q => absurd (hfb q) (by simp)
                                            have key := KEY.out (by omega)
                                            simp at key
                                          as_aux_lemma =>
                                            go_wp2_with fail
                                            go_roundw
                                            case rel => exact ⟨n + 1, false, by omega, by go_num, rfl, HN, hbF⟩
                                            case measure => simp [intOf]; omega
                                        · as_aux_lemma =>
                                            go_wp2_with fail
                                            go_roundw
                                            case rel => exact ⟨n + 1, true, by omega, by go_num, rfl, fun _ => rfl, hbF⟩
                                            case measure => simp [intOf]; omega
                                  · rcases E1 with _ | _
                                    · rcases GL with _ | _
                                      · have HN : m0 < n + 1 → false = true := fun hq => by
                                          have e : ¬ m0 < n := fun q => absurd (hfb q) (by simp)
                                          have key := KEY.out (by omega)
                                          simp at key
                                        as_aux_lemma =>
                                          go_wp2_with fail
                                          go_roundw
                                          case rel => exact ⟨n + 1, false, by omega, by go_num, rfl, HN, hbF⟩
                                          case measure => simp [intOf]; omega
                                      · rcases sb with _ | _
                                        · have HN : m0 < n + 1 → false = true := fun hq => by
                                            have e : ¬ m0 < n := fun q => absurd (hfb q) (by simp)
                                            have key := KEY.out (by omega)
                                            simp at key
                                          as_aux_lemma =>
                                            go_wp2_with fail
                                            go_roundw
                                            case rel => exact ⟨n + 1, false, by omega, by go_num, rfl, HN, hbF⟩
                                            case measure => simp [intOf]; omega
                                        · rcases E2 with _ | _
                                          · have HN : m0 < n + 1 → false = true := fun hq => by
                                              have e : ¬ m0 < n := fun q => absurd (hfb q) (by simp)
                                              have key := KEY.out (by omega)
                                              simp at key
                                            as_aux_lemma =>
                                              go_wp2_with fail
                                              go_roundw
                                              case rel => exact ⟨n + 1, false, by omega, by go_num, rfl, HN, hbF⟩
                                              case measure => simp [intOf]; omega
                                          · as_aux_lemma =>
                                              go_wp2_with fail
                                              go_roundw
                                              case rel => exact ⟨n + 1, true, by omega, by go_num, rfl, fun _ => rfl, hbF⟩
                                              case measure => simp [intOf]; omega
                                    · as_aux_lemma =>
                                        go_wp2_with fail
                                        go_roundw
                                        case rel => exact ⟨n + 1, true, by omega, by go_num, rfl, fun _ => rfl, hbF⟩
                                        case measure => simp [intOf]; omega
                                · have bw : (wt == v2) = false := by simp [hw]
                                  have HN : m0 < n + 1 → false = true := fun hq => by
                                    have e : ¬ m0 < n := fun q => absurd (hfb q) (by simp)
                                    have key := KEY.out (by omega)
                                    exact absurd key.2.1 hw
                                  clear hw
                                  as_aux_lemma =>
                                    go_wp2_with fail
                                    go_roundw
                                    case rel => exact ⟨n + 1, false, by omega, by go_num, rfl, HN, hbF⟩
                                    case measure => simp [intOf]; omega
                              · have HN : m0 < n + 1 → false = true := fun hq => by
                                  have e : ¬ m0 < n := fun q => absurd (hfb q) (by simp)
                                  have key := KEY.out (by omega)
                                  simp at key
                                as_aux_lemma =>
                                  go_wp2_with fail
                                  go_roundw
                                  case rel => exact ⟨n + 1, false, by omega, by go_num, rfl, HN, hbF⟩
                                  case measure => simp [intOf]; omega
                            · as_aux_lemma =>
                                go_wp2_with fail
                                go_roundw
                                case rel => exact ⟨n + 1, true, by omega, by go_num, rfl, fun _ => rfl, hbF⟩
                                case measure => simp [intOf]; omega
          · have e : fb = true := hfb (by omega)
            subst e
            have hnI : ¬ (n : Int) < (i : Int) := by omega
            go_wp2_with fail
            go_roundw
            case rel => exact ⟨i + 1, by omega, by omega, by go_num, hbp⟩
            case measure => simp [intOf]; omega
      · go_wp2_with fail
        go_ret
        exact ⟨rfl, bcall hB_w5 hB_w5.size hbo⟩

theorem walk (a : Option Addr) (n cap : Nat) (f : Nat → Int) (w : World) (h : BytesAt w a n f) (hm : n ≤ cap ∧ cap ≤ 9223372036854775807) :
    Calls Try.prog 3 #[.slice a n cap] w fun e w' => e = .returned (.bool true) ∧ Below w.heap.size w w' := by
  by_cases hs : n ≤ 1048576
  · exact small a n cap f w h hm hs
  · exact big a n cap f w h hm (by omega)

set_option maxRecDepth 100000 in
theorem lifted (os : Os) (started : os.Started) (H : Type) (enc : TypeId × Value → H) :
    ReturnsInHanded {} Try.checked os 3 .any (Rows.fnTrailStepSpec.pre6 enc Try.prog Try.f3 Rows.fnTrailStepRow.domain false) (Rows.fnTrailStepSpec.post enc Try.prog Try.f3 false true false false) := by
  refine returnsInHanded_of_change (C := Try.checked) own started (by kernel_rfl) Try.func3
    (ChangeSpec.witness6 (enc := enc) (C := Try.checked) false ⟨#[], #[.slice none 0 0], []⟩ 8 (by kernel_rfl) (by kernel_rfl) (by kernel_rfl) (by kernel_rfl)) ?_
  intro W base args ds gs before hval0 hW hcnd _
  have hval : ∀ (j : Nat) t v, Try.f3.params[j]? = some t → args[j]? = some v → Value.okWide Try.prog W .any base t v := hval0
  have hW' := hW
  obtain ⟨p, q, hA0, hV, rfl, hfz, hnd⟩ := hW
  have hA : DataW.TrodAll enc Try.prog W 0 (fun _ => true) true Try.f3.params.toList args.toList ds p := hA0
  rw [Try.params3] at hA hval
  obtain ⟨v0, vs0, d0, ds0, p0, q0, hargs, rfl, rfl, h0, r0⟩ := trodAll_cons hA
  obtain ⟨rfl, rfl, rfl⟩ := trodAll_nil r0
  obtain rfl : args = #[v0] := by cases args; simp_all
  obtain ⟨rfl, rfl⟩ := trodVars_none hV
  have k0 := h0
  have lt0 : ∀ x ∈ p0, x.block < W.heap.size := by obtain ⟨m, hm⟩ := k0; exact DataW.trod_lt m _ _ _ hm
  obtain ⟨a0, n0, cap0, f0, rfl, hC0, hm0⟩ := open_bytes (hval 0 22 v0 rfl rfl) h0
  clear hA0 hval0
  refine (walk a0 n0 cap0 f0 W hC0 hm0).mono fun e W' ⟨he, bel⟩ => ?_
  subst he
  exact ⟨_, rfl, _, _, _, [], _, [], hW', trodAll_mk1 (shut_bool Try.underlying4 _), (trodAll_cons_mk (Below.trod laidOut (by kernel_rfl) (of_decide_eq_true (by kernel_rfl)) k0 bel lt0) trodAll_mk0), rfl, bel.frame _, fun h => by cases h⟩

theorem over : Rows.fnTrailStepRow.holds Try.pinned (OpenSpec.ofChange Rows.fnTrailStepSpec) :=
  OpenClaim.holds_of_wide 3 Try.f3 rfl rfl rfl rfl rfl rfl rfl ⟨rfl, rfl, rfl, rfl, rfl⟩ rfl rfl rfl rfl rfl (by kernel_rfl) Try.func3 (by kernel_rfl)
    (of_decide_eq_true (by kernel_rfl)) (by unfold Func.isWrapper; first | (rw [if_pos (by decide +kernel)]; kernel_rfl) | (rw [if_neg (by decide +kernel)]; exact ⟨rfl, rfl⟩))
    (fun os started H enc _ => lifted os started H enc)

end Go.Proofs.Ytdlnmdmdoebecaa.LwTrailStep

namespace Go.Proofs.Ytdlnmdmdoebecaa
/-- The statement. -/
theorem lwTrailStep : Rows.FnTrailStepSaid := LwTrailStep.over
#print axioms lwTrailStep
end Go.Proofs.Ytdlnmdmdoebecaa
