/-
  'laws.FnTrailTurn' returns true for all codes: turned, light goes as it went. No condition.
-/
import Derived.Test.YtdlnmdmdoebecaaFb
import Derived.Test.YtdlnmdmdoebecaaUm
import Derived.Test.YtdlnmdmdoebecaaDv
import Derived.Test.YtdlnmdmdoebecaaJm
import Derived.Test.YtdlnmdmdoebecaaTg
import Derived.Test.YtdlnmdmdoebecaaJh
import Derived.Deep.RegionHeld3
import Derived.Deep.DeepCutAuto
namespace Go.Proofs.Ytdlnmdmdoebecaa.LwTrailTurn
open Go.ChangeShapes Go.WideShapes Go.ChangeAt Go.RowKit
set_option linter.unusedVariables false
attribute [local go_sem ↓] Go.wp_at_zero Go.wp_at_succ

theorem siz_turn2 {wd : Int} {cs : List (Int × Int)} {W H : Nat} (S : Siz wd cs W H) : turnG wd cs = ((H : Int), perm (turnAt W H) other cs) ∧ Siz (H : Int) (perm (turnAt W H) other cs) H W := by
  have hok := S.ok
  rw [S.ew] at hok
  obtain ⟨e, k⟩ := turnG_ok W H cs hok S.hW S.hH S.el
  have hl : (perm (turnAt W H) other cs).length = H * W := by rw [perm_len, S.el, Nat.mul_comm]
  have hd : ((perm (turnAt W H) other cs).length : Int) / (H : Int) = (W : Int) := by
    rw [hl, ← Int.natCast_ediv, Nat.mul_div_cancel_left W S.hH.1]
  exact ⟨by rw [S.ew]; exact e, k, rfl, S.hH, S.hW, hl, hd, manyG_ok k hd⟩
theorem siz_flip2 {wd : Int} {cs : List (Int × Int)} {W H : Nat} (S : Siz wd cs W H) : flipG wd cs = ((W : Int), perm (flipAt W) other cs) ∧ Siz (W : Int) (perm (flipAt W) other cs) W H := by
  have hok := S.ok
  rw [S.ew] at hok
  obtain ⟨e, k⟩ := flipG_ok W H cs hok S.hW S.hH S.el
  have hl : (perm (flipAt W) other cs).length = W * H := by rw [perm_len, S.el]
  have hd : ((perm (flipAt W) other cs).length : Int) / (W : Int) = (H : Int) := by
    rw [hl, ← Int.natCast_ediv, Nat.mul_div_cancel_left H S.hW.1]
  exact ⟨by rw [S.ew]; exact e, k, rfl, S.hW, S.hH, hl, hd, manyG_ok k hd⟩
theorem turnGR {wd w2 : Int} {cs ct : List (Int × Int)} (hv : turnG wd cs = (w2, ct)) (a : Option Addr) (cap : Nat) (w : World) (h : CellsAt w a cs) (hm : cs.length ≤ 1048576) :
    Calls Try.prog 15 #[.agg #[.int .i64 wd, .slice a cs.length cap]] w fun e w' => ∃ a2 c2, e = .returned (.agg #[.int .i64 w2, .slice a2 ct.length c2]) ∧ CellsAt w' a2 ct ∧ Below w.heap.size w w' := by
  have := implGridTurn_any wd a cap cs w h hm
  rw [hv] at this
  refine this.mono ?_
  rintro e w' ⟨v, rfl, hO, hb⟩
  obtain ⟨a2, c2, rfl, hC⟩ := hO.slice
  exact ⟨a2, c2, rfl, hC, hb⟩
theorem flipGR {wd w2 : Int} {cs ct : List (Int × Int)} (hv : flipG wd cs = (w2, ct)) (a : Option Addr) (cap : Nat) (w : World) (h : CellsAt w a cs) (hm : cs.length ≤ 1048576) :
    Calls Try.prog 17 #[.agg #[.int .i64 wd, .slice a cs.length cap]] w fun e w' => ∃ a2 c2, e = .returned (.agg #[.int .i64 w2, .slice a2 ct.length c2]) ∧ CellsAt w' a2 ct ∧ Below w.heap.size w w' := by
  have := implGridFlip_any wd a cap cs w h hm
  rw [hv] at this
  refine this.mono ?_
  rintro e w' ⟨v, rfl, hO, hb⟩
  obtain ⟨a2, c2, rfl, hC⟩ := hO.slice
  exact ⟨a2, c2, rfl, hC, hb⟩
theorem turnKR {wd : Int} {cs : List (Int × Int)} {k m : Int} (hv : turnK wd cs k = m) (a : Option Addr) (cap : Nat) (w : World) (h : CellsAt w a cs) (hm : cs.length ≤ 1048576) :
    Calls Try.prog 16 #[.agg #[.int .i64 wd, .slice a cs.length cap], .int .i64 k] w fun e w' => e = .returned (.int .i64 m) ∧ Below w.heap.size w w' := by
  rw [← hv]; exact implTurn_any wd a cap cs w h hm k
theorem flipKR {wd : Int} {cs : List (Int × Int)} {k m : Int} (hv : flipK wd cs k = m) (a : Option Addr) (cap : Nat) (w : World) (h : CellsAt w a cs) (hm : cs.length ≤ 1048576) :
    Calls Try.prog 18 #[.agg #[.int .i64 wd, .slice a cs.length cap], .int .i64 k] w fun e w' => e = .returned (.int .i64 m) ∧ Below w.heap.size w w' := by
  rw [← hv]; exact implFlip_any wd a cap cs w h hm k

/-- Too long a code. -/
theorem big (a : Option Addr) (n cap : Nat) (f : Nat → Int) (w : World) (h : BytesAt w a n f) (hm : n ≤ cap ∧ cap ≤ 9223372036854775807) (hbig : 1048576 < n) :
    Calls Try.prog 4 #[.slice a n cap] w fun e w' => e = .returned (.bool true) ∧ Below w.heap.size w w' := by
  have hb : (1048576 : Int) < (n : Int) := by omega
  go_enter Try.func4, Try.ntmps4
  go_wp2
  go_ret
  exact ⟨rfl, Below.refl _ _⟩

set_option maxRecDepth 100000 in
set_option maxHeartbeats 8000000 in
theorem small (a : Option Addr) (n cap : Nat) (f : Nat → Int) (w : World) (h : BytesAt w a n f) (hm : n ≤ cap ∧ cap ≤ 9223372036854775807) (hsm : n ≤ 1048576) :
    Calls Try.prog 4 #[.slice a n cap] w fun e w' => e = .returned (.bool true) ∧ Below w.heap.size w w' := by
  have hb : (n : Int) ≤ 1048576 := by omega
  go_enter Try.func4, Try.ntmps4
  go_wp2_with fail
  refine (drawTrailTo_any a n cap f w h hsm hm.1 hm.2).mono ?_
  rintro e w1 ⟨wd, a1, c1, cs, k, q, rfl, hC1, hl1, hb_w1⟩
  have hz_w1 := hb_w1.size
  try simp at hz_w1
  have hbS1 : Below w1.heap.size w1 (w1.alloc (.cells #[.int .i64 wd, .slice a1 cs.length c1] 25)) := (by repeat (first | exact Below.refl _ _ | refine Below.alloc ?_ (by first | exact Nat.le_refl _ | (simp; done) | (simp; omega)) _ | refine Below.drew ?_ | refine Below.setCell ?_ (by first | exact Nat.le_refl _ | (simp; done) | (simp; omega)) _))
  replace hC1 := hC1.below hbS1
  have g0 : (w1.alloc (.cells #[.int .i64 wd, .slice a1 cs.length c1] 25)).cell? ⟨w1.heap.size, 0, none⟩ = some (.int .i64 wd) := by simp [go_sem]
  have g1 : (w1.alloc (.cells #[.int .i64 wd, .slice a1 cs.length c1] 25)).cell? ⟨w1.heap.size, 1, none⟩ = some (.slice a1 cs.length c1) := by simp [go_sem]
  have hBs1 := bcall hb_w1 (by omega) hbS1
  clear hb_w1
  clear hbS1
  obtain ⟨N, hN⟩ : ∃ N, toN wd cs k q = N := ⟨_, rfl⟩
  have EN : Hid (toN wd cs k q = N) := hN
  have bn : (N != N) = false := by simp
  have be : (N == N) = true := by simp
  clear hN
  go_wp2_with fail
  refine (implToR EN.out a1 c1 _ hC1 (by omega)).mono ?_
  rintro e w2 ⟨rfl, hb_w2⟩
  have hz_w2 := hb_w2.size
  try simp at hz_w2
  replace g0 := keepc hb_w2 g0; replace g1 := keepc hb_w2 g1
  replace hC1 := hC1.below hb_w2
  have hB_w2 := bcall hBs1 (by first | omega | (simp; omega)) hb_w2
  clear hBs1 hb_w2
  go_wp2_with fail
  refine (specToR EN.out a1 c1 _ hC1 (by omega)).mono ?_
  rintro e w3 ⟨rfl, hb_w3⟩
  have hz_w3 := hb_w3.size
  try simp at hz_w3
  replace g0 := keepc hb_w3 g0; replace g1 := keepc hb_w3 g1
  replace hC1 := hC1.below hb_w3
  have hB_w3 := bcall hB_w2 (by first | omega | (simp; omega)) hb_w3
  clear hB_w2 hb_w3
  go_wp2_with fail
  refine (llSight_any wd a1 c1 cs _ hC1 (by omega) k).mono ?_
  rintro e w4 ⟨rfl, hb_w4⟩
  have hz_w4 := hb_w4.size
  try simp at hz_w4
  replace g0 := keepc hb_w4 g0; replace g1 := keepc hb_w4 g1
  replace hC1 := hC1.below hb_w4
  have hB_w4 := bcall hB_w3 (by first | omega | (simp; omega)) hb_w4
  clear hB_w3 hb_w4
  rcases hs : inS wd cs k with _ | _
  · go_wp2_with fail
    refine (specToR EN.out a1 c1 _ hC1 (by omega)).mono ?_
    rintro e w6 ⟨rfl, hb_w6⟩
    have hz_w6 := hb_w6.size
    try simp at hz_w6
    replace g0 := keepc hb_w6 g0; replace g1 := keepc hb_w6 g1
    replace hC1 := hC1.below hb_w6
    have hB_w6 := bcall hB_w4 (by first | omega | (simp; omega)) hb_w6
    clear hB_w4 hb_w6
    go_wp2
    go_ret
    exact ⟨rfl, hB_w6⟩
  · go_wp2_with fail
    refine (llSight_any wd a1 c1 cs _ hC1 (by omega) q).mono ?_
    rintro e w5 ⟨rfl, hb_w5⟩
    have hz_w5 := hb_w5.size
    try simp at hz_w5
    replace g0 := keepc hb_w5 g0; replace g1 := keepc hb_w5 g1
    replace hC1 := hC1.below hb_w5
    have hB_w5 := bcall hB_w4 (by first | omega | (simp; omega)) hb_w5
    clear hB_w4 hb_w5
    rcases hs2 : inS wd cs q with _ | _
    · go_wp2_with fail
      refine (specToR EN.out a1 c1 _ hC1 (by omega)).mono ?_
      rintro e w6 ⟨rfl, hb_w6⟩
      have hz_w6 := hb_w6.size
      try simp at hz_w6
      replace g0 := keepc hb_w6 g0; replace g1 := keepc hb_w6 g1
      replace hC1 := hC1.below hb_w6
      have hB_w6 := bcall hB_w5 (by first | omega | (simp; omega)) hb_w6
      clear hB_w5 hb_w6
      go_wp2
      go_ret
      exact ⟨rfl, hB_w6⟩
    · obtain ⟨W, H, SZ⟩ := siz_of (inS_ok hs)
      obtain ⟨et, St⟩ := siz_turn2 SZ
      obtain ⟨ef, Sf⟩ := siz_flip2 SZ
      have tt := (to_turn SZ St hs hs2).trans EN.out
      have tf := (to_flip SZ Sf hs hs2).trans EN.out
      have hlt : (perm (turnAt W H) other cs).length ≤ 31 := by rw [perm_len]; exact hl1
      have hlf : (perm (flipAt W) other cs).length ≤ 31 := by rw [perm_len]; exact hl1
      obtain ⟨ct, hct⟩ : ∃ ct, perm (turnAt W H) other cs = ct := ⟨_, rfl⟩
      obtain ⟨cf, hcf⟩ : ∃ cf, perm (flipAt W) other cs = cf := ⟨_, rfl⟩
      obtain ⟨m1, e1⟩ : ∃ m, turnK wd cs k = m := ⟨_, rfl⟩
      obtain ⟨m2, e2⟩ : ∃ m, turnK wd cs q = m := ⟨_, rfl⟩
      obtain ⟨n1, f1⟩ : ∃ m, flipK wd cs k = m := ⟨_, rfl⟩
      obtain ⟨n2, f2⟩ : ∃ m, flipK wd cs q = m := ⟨_, rfl⟩
      rw [hct] at et tt hlt
      rw [hcf] at ef tf hlf
      rw [e1, e2] at tt
      rw [f1, f2] at tf
      have ET : Hid (turnG wd cs = ((H : Int), ct)) := et
      have EF : Hid (flipG wd cs = ((W : Int), cf)) := ef
      have E1 : Hid (turnK wd cs k = m1) := e1
      have E2 : Hid (turnK wd cs q = m2) := e2
      have F1 : Hid (flipK wd cs k = n1) := f1
      have F2 : Hid (flipK wd cs q = n2) := f2
      have TT : Hid (toN (H : Int) ct m1 m2 = N) := tt
      have TF : Hid (toN (W : Int) cf n1 n2 = N) := tf
      clear et ef e1 e2 f1 f2 tt tf hct hcf St Sf SZ hs hs2
      go_wp2
      go_cut [7] (fun sA wc => sA = .int .i64 N ∧ Below w5.heap.size w5 wc)
      case first =>
        refine wp_region_held_drew (S := (fun w' => w'.cell? ⟨w1.heap.size, 0, none⟩ = some (.int .i64 wd) ∧ w'.cell? ⟨w1.heap.size, 1, none⟩ = some (.slice a1 cs.length c1))) (by kernel_rfl) ?_ (fun hHeld => ?_)
        · exact ⟨g0, g1⟩
        refine wpAnyH_take (i := 0) (oi := { dst := some 46, op := Go.Op.load 25 (Go.Operand.tmp 3), type := 25, pos := "laws.go:726", after := #[], guard := none }) (v := ?vy10) rfl (by kernel_rfl) (by kernel_rfl) (by kernel_rfl) (fun _ _ _ h => h) (Or.inl ⟨by rfl, ?hyy10⟩) (by assumption) ?resty10
        case hyy10 => (intro w hSw; (try dsimp only at hSw); go_simp; try (with_reducible rfl))
        (try simp only [Act.put, List.setIfInBounds_toArray, List.set_cons_zero, List.set_cons_succ])
        refine wpAnyH_take (i := 2) (oi := { dst := some 48, op := Go.Op.load 25 (Go.Operand.tmp 3), type := 25, pos := "laws.go:726", after := #[], guard := none }) (v := ?vy12) rfl (by kernel_rfl) (by kernel_rfl) (by kernel_rfl) (fun _ _ _ h => h) (Or.inl ⟨by rfl, ?hyy12⟩) (by assumption) ?resty12
        case hyy12 => (intro w hSw; (try dsimp only at hSw); go_simp; try (with_reducible rfl))
        (try simp only [Act.put, List.setIfInBounds_toArray, List.set_cons_zero, List.set_cons_succ])
        refine wpAnyH_take (i := 3) (oi := { dst := some 49, op := Go.Op.move (Go.Operand.tmp 4), type := 3, pos := "laws.go:726", after := #[], guard := none }) (v := ?vy13) rfl (by kernel_rfl) (by kernel_rfl) (by kernel_rfl) (fun _ _ _ h => h) (Or.inl ⟨by rfl, ?hyy13⟩) (by assumption) ?resty13
        case hyy13 => (intro w hSw; (try dsimp only at hSw); go_simp; try (with_reducible rfl))
        (try simp only [Act.put, List.setIfInBounds_toArray, List.set_cons_zero, List.set_cons_succ])
        refine wpAnyH_take (i := 5) (oi := { dst := some 51, op := Go.Op.load 25 (Go.Operand.tmp 3), type := 25, pos := "laws.go:726", after := #[], guard := none }) (v := ?vy15) rfl (by kernel_rfl) (by kernel_rfl) (by kernel_rfl) (fun _ _ _ h => h) (Or.inl ⟨by rfl, ?hyy15⟩) (by assumption) ?resty15
        case hyy15 => (intro w hSw; (try dsimp only at hSw); go_simp; try (with_reducible rfl))
        (try simp only [Act.put, List.setIfInBounds_toArray, List.set_cons_zero, List.set_cons_succ])
        refine wpAnyH_take (i := 6) (oi := { dst := some 52, op := Go.Op.move (Go.Operand.tmp 5), type := 3, pos := "laws.go:726", after := #[], guard := none }) (v := ?vy16) rfl (by kernel_rfl) (by kernel_rfl) (by kernel_rfl) (fun _ _ _ h => h) (Or.inl ⟨by rfl, ?hyy16⟩) (by assumption) ?resty16
        case hyy16 => (intro w hSw; (try dsimp only at hSw); go_simp; try (with_reducible rfl))
        (try simp only [Act.put, List.setIfInBounds_toArray, List.set_cons_zero, List.set_cons_succ])
        refine wpAnyH_ready (rs := [1]) (by kernel_rfl) (by simp) ?_
        refine AllReadyH.cons (o := { dst := some 47, op := Go.Op.call { callee := Go.Callee.value (Go.Operand.func 15), args := #[Go.Operand.tmp 46], argTypes := #[25] }, type := 25, pos := "laws.go:726", after := #[{ on := 0, ground := Go.Ground.data }], guard := none }) rfl (fun K hK => ?_) AllReadyH.nil
        go_simp
        (go_at_call 15; refine (turnGR ET.out a1 c1 _ (hC1.below (Below.refl _ _).drew) (by omega)).mono ?_; rintro e y1 ⟨a_y1, c_y1, rfl, hC_y1, hb_y1'⟩; have hb_y1 : Below w5.heap.size w5 y1 := bdrew hb_y1'; have G0y1 := keepc hb_y1 g0; have G1y1 := keepc hb_y1 g1)
        (try go_wp2_with fail)
        refine hK.out _ _ ?_ (fun hHeld => ?_)
        · exact ⟨G0y1, G1y1⟩
        clear hK K
        (try simp only [Act.put, List.setIfInBounds_toArray, List.set_cons_zero, List.set_cons_succ])
        refine wpAnyH_ready (rs := [4]) (by kernel_rfl) (by simp) ?_
        refine AllReadyH.cons (o := { dst := some 50, op := Go.Op.call { callee := Go.Callee.value (Go.Operand.func 16), args := #[Go.Operand.tmp 48, Go.Operand.tmp 49], argTypes := #[25, 3] }, type := 3, pos := "laws.go:726", after := #[{ on := 2, ground := Go.Ground.data }, { on := 3, ground := Go.Ground.data }, { on := 1, ground := Go.Ground.chain }], guard := none }) rfl (fun K hK => ?_) AllReadyH.nil
        go_simp
        (go_at_call 16; refine (turnKR E1.out a1 c1 _ (hC1.below hb_y1) (by omega)).mono ?_; rintro e y2 ⟨rfl, hb_y2'⟩; have hb_y2 : Below w5.heap.size w5 y2 := bcall hb_y1 hb_y1.size hb_y2'; have hC_y2 := hC_y1.below hb_y2'; have G0y2 := keepc hb_y2 g0; have G1y2 := keepc hb_y2 g1)
        (try go_wp2_with fail)
        refine hK.out _ _ ?_ (fun hHeld => ?_)
        · exact ⟨G0y2, G1y2⟩
        clear hK K
        (try simp only [Act.put, List.setIfInBounds_toArray, List.set_cons_zero, List.set_cons_succ])
        refine wpAnyH_ready (rs := [7]) (by kernel_rfl) (by simp) ?_
        refine AllReadyH.cons (o := { dst := some 53, op := Go.Op.call { callee := Go.Callee.value (Go.Operand.func 16), args := #[Go.Operand.tmp 51, Go.Operand.tmp 52], argTypes := #[25, 3] }, type := 3, pos := "laws.go:726", after := #[{ on := 5, ground := Go.Ground.data }, { on := 6, ground := Go.Ground.data }, { on := 4, ground := Go.Ground.chain }], guard := none }) rfl (fun K hK => ?_) AllReadyH.nil
        go_simp
        (go_at_call 16; refine (turnKR E2.out a1 c1 _ (hC1.below hb_y2) (by omega)).mono ?_; rintro e y3 ⟨rfl, hb_y3'⟩; have hb_y3 : Below w5.heap.size w5 y3 := bcall hb_y2 hb_y2.size hb_y3'; have hC_y3 := hC_y2.below hb_y3'; have G0y3 := keepc hb_y3 g0; have G1y3 := keepc hb_y3 g1)
        (try go_wp2_with fail)
        refine hK.out _ _ ?_ (fun hHeld => ?_)
        · exact ⟨G0y3, G1y3⟩
        clear hK K
        (try simp only [Act.put, List.setIfInBounds_toArray, List.set_cons_zero, List.set_cons_succ])
        refine wpAnyH_ready (rs := [8]) (by kernel_rfl) (by simp) ?_
        refine AllReadyH.cons (o := { dst := some 54, op := Go.Op.call { callee := Go.Callee.value (Go.Operand.func 13), args := #[Go.Operand.tmp 47, Go.Operand.tmp 50, Go.Operand.tmp 53], argTypes := #[25, 3, 3] }, type := 3, pos := "laws.go:726", after := #[{ on := 1, ground := Go.Ground.data }, { on := 4, ground := Go.Ground.data }, { on := 7, ground := Go.Ground.data }, { on := 7, ground := Go.Ground.chain }], guard := none }) rfl (fun K hK => ?_) AllReadyH.nil
        go_simp
        (go_at_call 13; refine (implToR TT.out a_y1 c_y1 _ hC_y3 (by omega)).mono ?_; rintro e y4 ⟨rfl, hb_y4'⟩; have hb_y4 : Below w5.heap.size w5 y4 := bcall hb_y3 hb_y3.size hb_y4'; have G0y4 := keepc hb_y4 g0; have G1y4 := keepc hb_y4 g1)
        (try go_wp2_with fail)
        refine hK.out _ _ ?_ (fun hHeld => ?_)
        · exact ⟨G0y4, G1y4⟩
        clear hK K
        (try simp only [Act.put, List.setIfInBounds_toArray, List.set_cons_zero, List.set_cons_succ])
        refine wpAnyH_take (i := 9) (oi := { dst := some 7, op := Go.Op.assign (Go.Operand.tmp 54), type := 3, pos := "laws.go:726", after := #[{ on := 8, ground := Go.Ground.data }, { on := 8, ground := Go.Ground.chain }, { on := 0, ground := Go.Ground.phase }, { on := 1, ground := Go.Ground.phase }, { on := 2, ground := Go.Ground.phase }, { on := 3, ground := Go.Ground.phase }, { on := 4, ground := Go.Ground.phase }, { on := 5, ground := Go.Ground.phase }, { on := 6, ground := Go.Ground.phase }, { on := 7, ground := Go.Ground.phase }, { on := 8, ground := Go.Ground.phase }], guard := none }) (v := ?vy19) rfl (by kernel_rfl) (by kernel_rfl) (by kernel_rfl) (fun _ _ _ h => h) (Or.inl ⟨by rfl, ?hyy19⟩) (by assumption) ?resty19
        case hyy19 => (intro w hSw; (try dsimp only at hSw); go_simp; try (with_reducible rfl))
        (try simp only [Act.put, List.setIfInBounds_toArray, List.set_cons_zero, List.set_cons_succ])
        refine wpAnyH_done (by kernel_rfl) ?_ _
        go_wp2_with fail
        go_meet
        case rel => exact ⟨rfl, hb_y4⟩
      case rest =>
        rename World => w6
        obtain ⟨rfl, hb6⟩ := hcut
        replace hC1 := hC1.below hb6
        have g0 := keepc hb6 g0
        have g1 := keepc hb6 g1
        have hB6 := bcall hB_w5 (by first | omega | exact hB_w5.size) hb6
        clear hb6
        go_wp2
        go_cut [8] (fun sA wc => sA = .int .i64 N ∧ Below w6.heap.size w6 wc)
        case first =>
          refine wp_region_held_drew (S := (fun w' => w'.cell? ⟨w1.heap.size, 0, none⟩ = some (.int .i64 wd) ∧ w'.cell? ⟨w1.heap.size, 1, none⟩ = some (.slice a1 cs.length c1))) (by kernel_rfl) ?_ (fun hHeld => ?_)
          · exact ⟨g0, g1⟩
          refine wpAnyH_take (i := 0) (oi := { dst := some 55, op := Go.Op.load 25 (Go.Operand.tmp 3), type := 25, pos := "laws.go:727", after := #[], guard := none }) (v := ?vz10) rfl (by kernel_rfl) (by kernel_rfl) (by kernel_rfl) (fun _ _ _ h => h) (Or.inl ⟨by rfl, ?hyz10⟩) (by assumption) ?restz10
          case hyz10 => (intro w hSw; (try dsimp only at hSw); go_simp; try (with_reducible rfl))
          (try simp only [Act.put, List.setIfInBounds_toArray, List.set_cons_zero, List.set_cons_succ])
          refine wpAnyH_take (i := 2) (oi := { dst := some 57, op := Go.Op.load 25 (Go.Operand.tmp 3), type := 25, pos := "laws.go:727", after := #[], guard := none }) (v := ?vz12) rfl (by kernel_rfl) (by kernel_rfl) (by kernel_rfl) (fun _ _ _ h => h) (Or.inl ⟨by rfl, ?hyz12⟩) (by assumption) ?restz12
          case hyz12 => (intro w hSw; (try dsimp only at hSw); go_simp; try (with_reducible rfl))
          (try simp only [Act.put, List.setIfInBounds_toArray, List.set_cons_zero, List.set_cons_succ])
          refine wpAnyH_take (i := 3) (oi := { dst := some 58, op := Go.Op.move (Go.Operand.tmp 4), type := 3, pos := "laws.go:727", after := #[], guard := none }) (v := ?vz13) rfl (by kernel_rfl) (by kernel_rfl) (by kernel_rfl) (fun _ _ _ h => h) (Or.inl ⟨by rfl, ?hyz13⟩) (by assumption) ?restz13
          case hyz13 => (intro w hSw; (try dsimp only at hSw); go_simp; try (with_reducible rfl))
          (try simp only [Act.put, List.setIfInBounds_toArray, List.set_cons_zero, List.set_cons_succ])
          refine wpAnyH_take (i := 5) (oi := { dst := some 60, op := Go.Op.load 25 (Go.Operand.tmp 3), type := 25, pos := "laws.go:727", after := #[], guard := none }) (v := ?vz15) rfl (by kernel_rfl) (by kernel_rfl) (by kernel_rfl) (fun _ _ _ h => h) (Or.inl ⟨by rfl, ?hyz15⟩) (by assumption) ?restz15
          case hyz15 => (intro w hSw; (try dsimp only at hSw); go_simp; try (with_reducible rfl))
          (try simp only [Act.put, List.setIfInBounds_toArray, List.set_cons_zero, List.set_cons_succ])
          refine wpAnyH_take (i := 6) (oi := { dst := some 61, op := Go.Op.move (Go.Operand.tmp 5), type := 3, pos := "laws.go:727", after := #[], guard := none }) (v := ?vz16) rfl (by kernel_rfl) (by kernel_rfl) (by kernel_rfl) (fun _ _ _ h => h) (Or.inl ⟨by rfl, ?hyz16⟩) (by assumption) ?restz16
          case hyz16 => (intro w hSw; (try dsimp only at hSw); go_simp; try (with_reducible rfl))
          (try simp only [Act.put, List.setIfInBounds_toArray, List.set_cons_zero, List.set_cons_succ])
          refine wpAnyH_ready (rs := [1]) (by kernel_rfl) (by simp) ?_
          refine AllReadyH.cons (o := { dst := some 56, op := Go.Op.call { callee := Go.Callee.value (Go.Operand.func 17), args := #[Go.Operand.tmp 55], argTypes := #[25] }, type := 25, pos := "laws.go:727", after := #[{ on := 0, ground := Go.Ground.data }], guard := none }) rfl (fun K hK => ?_) AllReadyH.nil
          go_simp
          (go_at_call 17; refine (flipGR EF.out a1 c1 _ (hC1.below (Below.refl _ _).drew) (by omega)).mono ?_; rintro e z1 ⟨a_z1, c_z1, rfl, hC_z1, hb_z1'⟩; have hb_z1 : Below w6.heap.size w6 z1 := bdrew hb_z1'; have G0z1 := keepc hb_z1 g0; have G1z1 := keepc hb_z1 g1)
          (try go_wp2_with fail)
          refine hK.out _ _ ?_ (fun hHeld => ?_)
          · exact ⟨G0z1, G1z1⟩
          clear hK K
          (try simp only [Act.put, List.setIfInBounds_toArray, List.set_cons_zero, List.set_cons_succ])
          refine wpAnyH_ready (rs := [4]) (by kernel_rfl) (by simp) ?_
          refine AllReadyH.cons (o := { dst := some 59, op := Go.Op.call { callee := Go.Callee.value (Go.Operand.func 18), args := #[Go.Operand.tmp 57, Go.Operand.tmp 58], argTypes := #[25, 3] }, type := 3, pos := "laws.go:727", after := #[{ on := 2, ground := Go.Ground.data }, { on := 3, ground := Go.Ground.data }, { on := 1, ground := Go.Ground.chain }], guard := none }) rfl (fun K hK => ?_) AllReadyH.nil
          go_simp
          (go_at_call 18; refine (flipKR F1.out a1 c1 _ (hC1.below hb_z1) (by omega)).mono ?_; rintro e z2 ⟨rfl, hb_z2'⟩; have hb_z2 : Below w6.heap.size w6 z2 := bcall hb_z1 hb_z1.size hb_z2'; have hC_z2 := hC_z1.below hb_z2'; have G0z2 := keepc hb_z2 g0; have G1z2 := keepc hb_z2 g1)
          (try go_wp2_with fail)
          refine hK.out _ _ ?_ (fun hHeld => ?_)
          · exact ⟨G0z2, G1z2⟩
          clear hK K
          (try simp only [Act.put, List.setIfInBounds_toArray, List.set_cons_zero, List.set_cons_succ])
          refine wpAnyH_ready (rs := [7]) (by kernel_rfl) (by simp) ?_
          refine AllReadyH.cons (o := { dst := some 62, op := Go.Op.call { callee := Go.Callee.value (Go.Operand.func 18), args := #[Go.Operand.tmp 60, Go.Operand.tmp 61], argTypes := #[25, 3] }, type := 3, pos := "laws.go:727", after := #[{ on := 5, ground := Go.Ground.data }, { on := 6, ground := Go.Ground.data }, { on := 4, ground := Go.Ground.chain }], guard := none }) rfl (fun K hK => ?_) AllReadyH.nil
          go_simp
          (go_at_call 18; refine (flipKR F2.out a1 c1 _ (hC1.below hb_z2) (by omega)).mono ?_; rintro e z3 ⟨rfl, hb_z3'⟩; have hb_z3 : Below w6.heap.size w6 z3 := bcall hb_z2 hb_z2.size hb_z3'; have hC_z3 := hC_z2.below hb_z3'; have G0z3 := keepc hb_z3 g0; have G1z3 := keepc hb_z3 g1)
          (try go_wp2_with fail)
          refine hK.out _ _ ?_ (fun hHeld => ?_)
          · exact ⟨G0z3, G1z3⟩
          clear hK K
          (try simp only [Act.put, List.setIfInBounds_toArray, List.set_cons_zero, List.set_cons_succ])
          refine wpAnyH_ready (rs := [8]) (by kernel_rfl) (by simp) ?_
          refine AllReadyH.cons (o := { dst := some 63, op := Go.Op.call { callee := Go.Callee.value (Go.Operand.func 13), args := #[Go.Operand.tmp 56, Go.Operand.tmp 59, Go.Operand.tmp 62], argTypes := #[25, 3, 3] }, type := 3, pos := "laws.go:727", after := #[{ on := 1, ground := Go.Ground.data }, { on := 4, ground := Go.Ground.data }, { on := 7, ground := Go.Ground.data }, { on := 7, ground := Go.Ground.chain }], guard := none }) rfl (fun K hK => ?_) AllReadyH.nil
          go_simp
          (go_at_call 13; refine (implToR TF.out a_z1 c_z1 _ hC_z3 (by omega)).mono ?_; rintro e z4 ⟨rfl, hb_z4'⟩; have hb_z4 : Below w6.heap.size w6 z4 := bcall hb_z3 hb_z3.size hb_z4'; have G0z4 := keepc hb_z4 g0; have G1z4 := keepc hb_z4 g1)
          (try go_wp2_with fail)
          refine hK.out _ _ ?_ (fun hHeld => ?_)
          · exact ⟨G0z4, G1z4⟩
          clear hK K
          (try simp only [Act.put, List.setIfInBounds_toArray, List.set_cons_zero, List.set_cons_succ])
          refine wpAnyH_take (i := 9) (oi := { dst := some 8, op := Go.Op.assign (Go.Operand.tmp 63), type := 3, pos := "laws.go:727", after := #[{ on := 8, ground := Go.Ground.data }, { on := 8, ground := Go.Ground.chain }, { on := 0, ground := Go.Ground.phase }, { on := 1, ground := Go.Ground.phase }, { on := 2, ground := Go.Ground.phase }, { on := 3, ground := Go.Ground.phase }, { on := 4, ground := Go.Ground.phase }, { on := 5, ground := Go.Ground.phase }, { on := 6, ground := Go.Ground.phase }, { on := 7, ground := Go.Ground.phase }, { on := 8, ground := Go.Ground.phase }], guard := none }) (v := ?vz19) rfl (by kernel_rfl) (by kernel_rfl) (by kernel_rfl) (fun _ _ _ h => h) (Or.inl ⟨by rfl, ?hyz19⟩) (by assumption) ?restz19
          case hyz19 => (intro w hSw; (try dsimp only at hSw); go_simp; try (with_reducible rfl))
          (try simp only [Act.put, List.setIfInBounds_toArray, List.set_cons_zero, List.set_cons_succ])
          refine wpAnyH_done (by kernel_rfl) ?_ _
          go_wp2_with fail
          go_meet
          case rel => exact ⟨rfl, hb_z4⟩
        case rest =>
          rename World => w7
          obtain ⟨rfl, hb7⟩ := hcut
          have hB7 := bcall hB6 hB6.size hb7
          go_wp2
          go_ret
          exact ⟨rfl, hB7⟩

theorem walk (a : Option Addr) (n cap : Nat) (f : Nat → Int) (w : World) (h : BytesAt w a n f) (hm : n ≤ cap ∧ cap ≤ 9223372036854775807) :
    Calls Try.prog 4 #[.slice a n cap] w fun e w' => e = .returned (.bool true) ∧ Below w.heap.size w w' := by
  by_cases hs : n ≤ 1048576
  · exact small a n cap f w h hm hs
  · exact big a n cap f w h hm (by omega)

set_option maxRecDepth 100000 in
theorem lifted (os : Os) (started : os.Started) (H : Type) (enc : TypeId × Value → H) :
    ReturnsInHanded {} Try.checked os 4 .any (Rows.fnTrailTurnSpec.pre6 enc Try.prog Try.f4 Rows.fnTrailTurnRow.domain false) (Rows.fnTrailTurnSpec.post enc Try.prog Try.f4 false true false false) := by
  refine returnsInHanded_of_change (C := Try.checked) own started (by kernel_rfl) Try.func4
    (ChangeSpec.witness6 (enc := enc) (C := Try.checked) false ⟨#[], #[.slice none 0 0], []⟩ 8 (by kernel_rfl) (by kernel_rfl) (by kernel_rfl) (by kernel_rfl)) ?_
  intro W base args ds gs before hval0 hW hcnd _
  have hval : ∀ (j : Nat) t v, Try.f4.params[j]? = some t → args[j]? = some v → Value.okWide Try.prog W .any base t v := hval0
  have hW' := hW
  obtain ⟨p, q, hA0, hV, rfl, hfz, hnd⟩ := hW
  have hA : DataW.TrodAll enc Try.prog W 0 (fun _ => true) true Try.f4.params.toList args.toList ds p := hA0
  rw [Try.params4] at hA hval
  obtain ⟨v0, vs0, d0, ds0, p0, q0, hargs, rfl, rfl, h0, r0⟩ := trodAll_cons hA
  obtain ⟨rfl, rfl, rfl⟩ := trodAll_nil r0
  obtain rfl : args = #[v0] := by cases args; simp_all
  obtain ⟨rfl, rfl⟩ := trodVars_none hV
  have k0 := h0
  have lt0 : ∀ x ∈ p0, x.block < W.heap.size := by obtain ⟨m, hm⟩ := k0; exact DataW.trod_lt m _ _ _ hm
  obtain ⟨a0, n0, cap0, f0, rfl, hC0, hm0⟩ := open_bytes (hval 0 22 v0 rfl rfl) h0
  clear hA0 hval0
  refine (walk a0 n0 cap0 f0 W hC0 hm0).mono fun e W' ⟨he, bel⟩ => ?_
  subst he
  exact ⟨_, rfl, _, _, _, [], _, [], hW', trodAll_mk1 (shut_bool Try.underlying4 _), (trodAll_cons_mk (Below.trod laidOut (by kernel_rfl) (of_decide_eq_true (by kernel_rfl)) k0 bel lt0) trodAll_mk0), rfl, bel.frame _, fun h => by cases h⟩

theorem over : Rows.fnTrailTurnRow.holds Try.pinned (OpenSpec.ofChange Rows.fnTrailTurnSpec) :=
  OpenClaim.holds_of_wide 4 Try.f4 rfl rfl rfl rfl rfl rfl rfl ⟨rfl, rfl, rfl, rfl, rfl⟩ rfl rfl rfl rfl rfl (by kernel_rfl) Try.func4 (by kernel_rfl)
    (of_decide_eq_true (by kernel_rfl)) (by unfold Func.isWrapper; first | (rw [if_pos (by decide +kernel)]; kernel_rfl) | (rw [if_neg (by decide +kernel)]; exact ⟨rfl, rfl⟩))
    (fun os started H enc _ => lifted os started H enc)

end Go.Proofs.Ytdlnmdmdoebecaa.LwTrailTurn

namespace Go.Proofs.Ytdlnmdmdoebecaa
/-- The statement. -/
theorem lwTrailTurn : Rows.FnTrailTurnSaid := LwTrailTurn.over
#print axioms lwTrailTurn
end Go.Proofs.Ytdlnmdmdoebecaa
