/-
  spec.PicOf: how bright it is at all sights, as a row of numbers in new memory.
-/
import Derived.Test.YtnochicpkcjjlaaDoorJp
import Derived.Test.YtnochicpkcjjlaaDoorHr
import Derived.Test.YtnochicpkcjjlaaDoorJi
import Derived.Test.YtnochicpkcjjlaaDoorJa
import Derived.Deep.RegionHeld3
import Derived.Deep.AppendLies
namespace Go.Proofs.YtnochicpkcjjlaaDoor
open Go.RowKit
set_option linter.unusedVariables false

theorem infoIntP : (Tryd.prog.info? 3).map (fun i => (i.zero, i.size, i.bytes)) = some (some (.int .i64 0), 1, 8) := by kernel_rfl
/-- How bright it is at the first sights. -/
def picK (wd : Int) (cs : List (Int × Int)) (n : Nat) : List Int := (List.range n).map fun (k : Nat) => lightN wd cs (k : Int)
/-- How bright it is at all sights. -/
def picN (wd : Int) (cs : List (Int × Int)) : List Int := picK wd cs (manyG wd cs).toNat
theorem picK_len (wd : Int) (cs : List (Int × Int)) (n : Nat) : (picK wd cs n).length = n := by simp [picK]
theorem picK_succ (wd : Int) (cs : List (Int × Int)) (n : Nat) : picK wd cs (n + 1) = picK wd cs n ++ [lightN wd cs (n : Int)] := by simp [picK, List.range_succ]
theorem owns_belowP {w w' : World} {B : Nat} {e : TypeId} {s : Nat} {v : Value} {n : Nat} {xs : List Value} (h : w.ownsRow B e s v n xs) (hb : Below w.heap.size w w') : w'.ownsRow B e s v n xs := by
  refine ⟨h.1, ?_⟩
  rcases h.2 with hn | ⟨g, cap, cur, hv, hB, hg, rest⟩
  · exact .inl hn
  · exact .inr ⟨g, cap, cur, hv, hB, by rw [hb.block g (Array.getElem?_eq_some_iff.1 hg).1]; exact hg, rest⟩

theorem own_capI {w : World} {B : Nat} {v : Value} {xs : List Int} (h : OwnI w B v xs) : ∃ a cap, v = .slice a xs.length cap ∧ R1At w a xs ∧ xs.length ≤ cap ∧ ∀ b off, a = some ⟨b, off, none⟩ → B ≤ b := by
  have h0 := h
  obtain ⟨h1, h2⟩ := h
  obtain ⟨a, cap, rfl, hR⟩ := row1_at h0
  refine ⟨a, cap, rfl, hR, ?_, ?_⟩
  · rcases h2 with ⟨q, hn⟩ | ⟨g, c2, cur, q, _, _, hc, _⟩
    · rw [hn]; exact Nat.zero_le _
    · simp only [Value.slice.injEq] at q
      rw [q.2.2]; exact hc
  · intro b off e
    rcases h2 with ⟨q, hn⟩ | ⟨g, c2, cur, q, hg, _⟩
    · simp only [Value.slice.injEq] at q
      rw [q.1] at e; cases e
    · simp only [Value.slice.injEq] at q
      rw [q.1] at e
      simp only [Option.some.injEq, Addr.mk.injEq] at e
      omega
theorem gcellP {w w' : World} {r : Option Nat} {b o : Nat} {v : Value} (hg : w.grownBy w' r) (hne : some b ≠ r) (h : w.cell? ⟨b, o, none⟩ = some v) : w'.cell? ⟨b, o, none⟩ = some v := by
  have hb := World.block_lt_of_cell? _ _ h
  unfold World.cell? at h ⊢
  rw [hg.block b hb hne]
  exact h

set_option maxRecDepth 20000 in
set_option maxHeartbeats 2000000 in
theorem l12Pic_any {wd : Int} {cs : List (Int × Int)} {W H : Nat} (S : Siz wd cs W H) (a : Option Addr) (cap : Nat) (w : World) (h : CellsAt w a cs) (hm : cs.length ≤ 1048576) :
    Calls Tryd.prog 34 #[.agg #[.int .i64 wd, .slice a cs.length cap]] w fun e w' => ∃ v, e = .returned v ∧ OwnI w' w.heap.size v (picN wd cs) ∧ Below w.heap.size w w' := by
  obtain ⟨i0, hi, iz0, iz1, iz2⟩ := info_parts infoIntP
  have hok := S.ok
  obtain ⟨M, hM⟩ : ∃ M : Nat, M = 2 * (W + H) := ⟨_, rfl⟩
  have hMI : 2 * ((W : Int) + (H : Int)) = (M : Int) := by omega
  have hM20 : M ≤ 20 := by have := S.hW; have := S.hH; omega
  have HPN : Hid (picN wd cs = picK wd cs M) := by show _ = _; unfold picN; rw [S.em, hMI]; rfl
  have HLN : Hid (cs.length / W = H) := by
    show _ = _
    rw [S.el]; exact Nat.mul_div_cancel_left H (by have := S.hW; omega)
  have hmany : ∀ w : World, Calls Tryd.prog 24 #[.agg #[.int .i64 wd, .slice a cs.length cap]] w fun e w' => e = .returned (.int .i64 (M : Int)) ∧ Below w.heap.size w w' := by
    intro w
    rw [← hMI, S.ew]
    exact l3Many_any W H a cs.length cap w S.hW S.hH.2 (by omega) HLN.out
  have hbX : Below w.heap.size w (w.alloc (.cells #[.int .i64 wd, .slice a cs.length cap] 25)) := (by repeat (first | exact Below.refl _ _ | refine Below.alloc ?_ (by first | exact Nat.le_refl _ | (simp; done) | (simp; omega)) _ | refine Below.drew ?_ | refine Below.setCell ?_ (by first | exact Nat.le_refl _ | (simp; done) | (simp; omega)) _))
  have hbY : Below (w.alloc (.cells #[.int .i64 wd, .slice a cs.length cap] 25)).heap.size (w.alloc (.cells #[.int .i64 wd, .slice a cs.length cap] 25)) ((w.alloc (.cells #[.int .i64 wd, .slice a cs.length cap] 25)).alloc (.cells #[] 3)) := (Below.refl _ _).alloc (Nat.le_refl _) _
  have g0 : (w.alloc (.cells #[.int .i64 wd, .slice a cs.length cap] 25)).cell? ⟨w.heap.size, 0, none⟩ = some (.int .i64 wd) := by simp [go_sem]
  have g1 : (w.alloc (.cells #[.int .i64 wd, .slice a cs.length cap] 25)).cell? ⟨w.heap.size, 1, none⟩ = some (.slice a cs.length cap) := by simp [go_sem]
  have hO : OwnI ((w.alloc (.cells #[.int .i64 wd, .slice a cs.length cap] 25)).alloc (.cells #[] 3)) (w.heap.size + 1) (.slice (some ⟨w.heap.size + 1, 0, none⟩) 0 0) (picK wd cs 0) :=
    ⟨rfl, Or.inr ⟨w.heap.size + 1, 0, #[], rfl, Nat.le_refl _, by have := heap_alloc_new (w.alloc (.cells #[.int .i64 wd, .slice a cs.length cap] 25)) (.cells #[] 3); simpa using this, Nat.le_refl _, by unfold maxLen; omega, rfl, rfl⟩⟩
  have hB := bcall hbX hbX.size hbY
  have hC := h.below hB
  replace g0 := keepc hbY g0
  replace g1 := keepc hbY g1
  have SS : Hid (Siz wd cs W H) := S
  have hCw := h
  clear hbX hbY hMI h hok
  go_enter Tryd.func34, Tryd.ntmps34
  go_wp2_with fail
  obtain ⟨w3, hw3⟩ : ∃ w3, w3 = (w.alloc (.cells #[.int .i64 wd, .slice a cs.length cap] 25)).alloc (.cells #[] 3) := ⟨_, rfl⟩
  rw [← hw3] at hO hB hC g0 g1 ⊢
  clear hw3
  go_loopw [3, 4] (fun oo kk wr => ∃ k : Nat, k ≤ M ∧ kk = .int .i64 k ∧ OwnI wr (w.heap.size + 1) oo (picK wd cs k) ∧ wr.cell? ⟨w.heap.size, 0, none⟩ = some (.int .i64 wd) ∧ wr.cell? ⟨w.heap.size, 1, none⟩ = some (.slice a cs.length cap) ∧ CellsAt wr a cs ∧ Below w.heap.size w wr) (fun _ kk _ => M - (intOf kk).toNat)
  case atStart => exact ⟨0, Nat.zero_le _, rfl, hO, g0, g1, hC, hB⟩
  case round =>
    rename World => wo
    clear hO g0 g1 hC hB
    obtain ⟨k, hk, rfl, hO, g0, g1, hC, hB⟩ := hrel
    go_wp2_with fail
    refine (hmany _).mono ?_
    rintro e x0 ⟨rfl, hbm⟩
    replace g0 := keepc hbm g0
    replace g1 := keepc hbm g1
    have hB0 := bcall hB hB.size hbm
    have hC0 := hC.below hbm
    have hO0 := owns_belowP hO hbm
    have hz0 := World.block_lt_of_cell? _ _ g0
    clear hbm hC hB hO
    by_cases hlt : k < M
    · have hkI : (k : Int) < (M : Int) := by omega
      have hs : inS wd cs (k : Int) = true := by unfold inS; rw [SS.out.em]; exact decide_eq_true (by omega)
      have hT := trail_ok hs
      obtain ⟨L, hL⟩ : ∃ L, trailT wd cs (k : Int) = L := ⟨_, rfl⟩
      rw [hL] at hT
      obtain ⟨es, hes⟩ : ∃ es, L.2 = es := ⟨_, rfl⟩
      have HP : Hid (∀ u ∈ es, LampOk cs u) := fun u hu => lamp_of SS.out.ok (hT.ends u (by rw [hes]; exact hu))
      have HSM : Hid (sumW es ≤ 64) := by show _ ≤ _; rw [← hes, hT.sum]; omega
      obtain ⟨R, hR⟩ : ∃ R, lightN wd cs (k : Int) = R := ⟨_, rfl⟩
      have ER : Hid (sumL cs es = R) := by show _ = _; rw [← hR]; unfold lightN; rw [hL, hes]
      have EL : Hid (trailT wd cs (k : Int) = L) := hL
      have ES : Hid (L.2 = es) := hes
      have HSS : Hid (inS wd cs (k : Int) = true) := hs
      have hll := picK_len wd cs k
      have hps := picK_succ wd cs k
      rw [hR] at hps
      obtain ⟨LK, hLK⟩ : ∃ LK, picK wd cs k = LK := ⟨_, rfl⟩
      rw [hLK] at hps hll hO0
      have HPS : Hid (picK wd cs (k + 1) = LK ++ [R]) := hps
      try unfold OwnI at hO0
      rw [hll] at hO0
      clear hR hL hes hT hs hLK hps S
      have S := SS.out
      go_wp2_with fail
      have hz1 := hz0
      refine wp_region_held_drew (S := (fun w' => w'.cell? ⟨w.heap.size, 0, none⟩ = some (.int .i64 wd) ∧ w'.cell? ⟨w.heap.size, 1, none⟩ = some (.slice a cs.length cap))) (by kernel_rfl) ?_ (fun hHeld => ?_)
      · exact ⟨g0, g1⟩
      refine wpAnyH_take (i := 0) (oi := { dst := some 12, op := Go.Op.move (Go.Operand.tmp 3), type := 26, pos := "l12_pic.go:9", after := #[], guard := none }) (v := ?vp0) rfl (by kernel_rfl) (by kernel_rfl) (by kernel_rfl) (fun _ _ _ h => h) (Or.inl ⟨by rfl, ?hyp0⟩) (by assumption) ?restp0
      case hyp0 => (intro w hSw; (try dsimp only at hSw); go_simp; try (with_reducible rfl))
      (try simp only [Act.put, List.setIfInBounds_toArray, List.set_cons_zero, List.set_cons_succ])
      refine wpAnyH_take (i := 1) (oi := { dst := some 13, op := Go.Op.load 25 (Go.Operand.tmp 1), type := 25, pos := "l12_pic.go:9", after := #[], guard := none }) (v := ?vp1) rfl (by kernel_rfl) (by kernel_rfl) (by kernel_rfl) (fun _ _ _ h => h) (Or.inl ⟨by rfl, ?hyp1⟩) (by assumption) ?restp1
      case hyp1 => (intro w hSw; (try dsimp only at hSw); go_simp; try (with_reducible rfl))
      (try simp only [Act.put, List.setIfInBounds_toArray, List.set_cons_zero, List.set_cons_succ])
      refine wpAnyH_take (i := 2) (oi := { dst := some 14, op := Go.Op.load 25 (Go.Operand.tmp 1), type := 25, pos := "l12_pic.go:9", after := #[], guard := none }) (v := ?vp2) rfl (by kernel_rfl) (by kernel_rfl) (by kernel_rfl) (fun _ _ _ h => h) (Or.inl ⟨by rfl, ?hyp2⟩) (by assumption) ?restp2
      case hyp2 => (intro w hSw; (try dsimp only at hSw); go_simp; try (with_reducible rfl))
      (try simp only [Act.put, List.setIfInBounds_toArray, List.set_cons_zero, List.set_cons_succ])
      refine wpAnyH_take (i := 3) (oi := { dst := some 15, op := Go.Op.move (Go.Operand.tmp 4), type := 3, pos := "l12_pic.go:9", after := #[], guard := none }) (v := ?vp3) rfl (by kernel_rfl) (by kernel_rfl) (by kernel_rfl) (fun _ _ _ h => h) (Or.inl ⟨by rfl, ?hyp3⟩) (by assumption) ?restp3
      case hyp3 => (intro w hSw; (try dsimp only at hSw); go_simp; try (with_reducible rfl))
      (try simp only [Act.put, List.setIfInBounds_toArray, List.set_cons_zero, List.set_cons_succ])
      refine wpAnyH_ready (rs := [4]) (by kernel_rfl) (by simp) ?_
      refine AllReadyH.cons (o := { dst := some 16, op := Go.Op.call { callee := Go.Callee.value (Go.Operand.func 46), args := #[Go.Operand.tmp 14, Go.Operand.tmp 15], argTypes := #[25, 3] }, type := 77, pos := "l12_pic.go:9", after := #[{ on := 2, ground := Go.Ground.data }, { on := 3, ground := Go.Ground.data }], guard := none }) rfl (fun K hK => ?_) AllReadyH.nil
      go_simp
      (go_at_call 46; refine (l11Go_any S a cap _ (hC0.below (Below.refl _ _).drew) (k : Int) HSS.out).mono ?_; rintro e x1 ⟨pb, v1, e1, rfl, hW1, hb6'⟩; have hb6 : Below x0.heap.size x0 x1 := bdrew hb6'; obtain ⟨a2, c2, rfl, hR3⟩ := row3_at hW1.oe; rw [EL.out, ES.out] at hR3; have c3 := hW1.c3; rw [EL.out, ES.out] at c3; have g06 := keepc hb6 g0; have g16 := keepc hb6 g1)
      (try go_wp2_with fail)
      refine hK.out _ _ ?_ (fun hHeld => ?_)
      · exact ⟨g06, g16⟩
      clear hK K
      (try simp only [Act.put, List.setIfInBounds_toArray, List.set_cons_zero, List.set_cons_succ])
      refine wpAnyH_take (i := 5) (oi := { dst := some 17, op := Go.Op.nilCheck (Go.Operand.tmp 16), type := 0, pos := "l12_pic.go:9", after := #[{ on := 4, ground := Go.Ground.data }], guard := none }) (v := ?vp5) rfl (by kernel_rfl) (by kernel_rfl) (by kernel_rfl) (fun _ _ _ h => h) (Or.inl ⟨by rfl, ?hyp5⟩) (by assumption) ?restp5
      case hyp5 => (intro w hSw; (try dsimp only at hSw); go_simp; try (with_reducible rfl))
      (try simp only [Act.put, List.setIfInBounds_toArray, List.set_cons_zero, List.set_cons_succ])
      refine wpAnyH_take (i := 6) (oi := { dst := some 18, op := Go.Op.fieldAddr 76 (Go.Operand.tmp 17) 2, type := 0, pos := "l12_pic.go:9", after := #[{ on := 5, ground := Go.Ground.data }], guard := none }) (v := ?vp6) rfl (by kernel_rfl) (by kernel_rfl) (by kernel_rfl) (fun _ _ _ h => h) (Or.inl ⟨by rfl, ?hyp6⟩) (by assumption) ?restp6
      case hyp6 => (intro w hSw; (try dsimp only at hSw); go_simp; try (with_reducible rfl))
      (try simp only [Act.put, List.setIfInBounds_toArray, List.set_cons_zero, List.set_cons_succ])
      refine wpAnyH_ready (rs := [7]) (by kernel_rfl) (by simp) ?_
      refine AllReadyH.cons (o := { dst := some 19, op := Go.Op.load 74 (Go.Operand.tmp 18), type := 74, pos := "l12_pic.go:9", after := #[{ on := 6, ground := Go.Ground.data }], guard := none }) rfl (fun K hK => ?_) AllReadyH.nil
      go_simp
      refine hK.out _ _ ?_ (fun hHeld => ?_)
      · exact ⟨g06, g16⟩
      clear hK K
      (try simp only [Act.put, List.setIfInBounds_toArray, List.set_cons_zero, List.set_cons_succ])
      refine wpAnyH_ready (rs := [8]) (by kernel_rfl) (by simp) ?_
      refine AllReadyH.cons (o := { dst := some 20, op := Go.Op.call { callee := Go.Callee.value (Go.Operand.func 45), args := #[Go.Operand.tmp 13, Go.Operand.tmp 19], argTypes := #[25, 74] }, type := 3, pos := "l12_pic.go:9", after := #[{ on := 1, ground := Go.Ground.data }, { on := 7, ground := Go.Ground.data }, { on := 4, ground := Go.Ground.chain }], guard := none }) rfl (fun K hK => ?_) AllReadyH.nil
      go_simp
      (go_at_call 45; refine (l11Light_any wd a cap cs _ (hC0.below hb6) hm a2 c2 es hR3 HP.out HSM.out).mono ?_; rintro e x2 ⟨rfl, hb7'⟩; rw [ER.out]; have hb7 : Below x0.heap.size x0 x2 := bcall hb6 hb6.size hb7'; have g07 := keepc hb7 g0; have g17 := keepc hb7 g1; have hO7 := owns_belowP hO0 hb7; have hbA : Below x2.heap.size x2 (x2.alloc (.cells #[.int .i64 R] 3)) := (Below.refl _ _).alloc (Nat.le_refl _) _; have g08 := keepc hbA g07; have g18 := keepc hbA g17)
      (try go_wp2_with fail)
      refine hK.out _ _ ?_ (fun hHeld => ?_)
      · exact ⟨g07, g17⟩
      clear hK K
      (try simp only [Act.put, List.setIfInBounds_toArray, List.set_cons_zero, List.set_cons_succ])
      refine wpAnyH_ready (rs := [9]) (by kernel_rfl) (by simp) ?_
      refine AllReadyH.cons (o := { dst := some 21, op := Go.Op.buildSlice 26 1 #[(0, Go.Operand.tmp 20)], type := 26, pos := "l12_pic.go:9", after := #[{ on := 8, ground := Go.Ground.data }], guard := none }) rfl (fun K hK => ?_) AllReadyH.nil
      go_simp
      refine hK.out _ _ ?_ (fun hHeld => ?_)
      · exact ⟨g08, g18⟩
      clear hK K
      (try simp only [Act.put, List.setIfInBounds_toArray, List.set_cons_zero, List.set_cons_succ])
      refine wpAnyH_ready (rs := [10]) (by kernel_rfl) (by simp) ?_
      refine AllReadyH.cons (o := { dst := some 22, op := Go.Op.call { callee := Go.Callee.builtin Go.Builtin.append, args := #[Go.Operand.tmp 12, Go.Operand.tmp 21], argTypes := #[26, 26] }, type := 26, pos := "l12_pic.go:9", after := #[{ on := 0, ground := Go.Ground.data }, { on := 9, ground := Go.Ground.data }, { on := 8, ground := Go.Ground.chain }], guard := none }) rfl (fun K hK => ?_) AllReadyH.nil
      (refine step_append_lies _ (by rfl) _ _ _ (by rfl) (w.heap.size + 1) 3 i0 (.int .i64 0) 1 8 Tryd.underlying26 hi iz0 iz1 iz2 rfl (by omega) _ k (intsV LK) rfl (World.ownsRow.alloc hO7 _) ⟨x2.heap.size, 0, none⟩ 1 1 [.int .i64 R] rfl rfl (World.news_of_block (cs := #[.int .i64 R]) (t := 3) (fr := (0, 0)) (heap_alloc_new x2 _)) (by simp [Value.oneCell']) (by omega) (by unfold maxLen; omega) (by omega) (by have := hb7.size; simp; omega) (x2.heap.size + 1) (by simp) ?_)
      intro g6 k6 w6 hO6 hg6 hat6 hlt6
      have hown := fun k q => (World.ownsRow.lt hO7 k q).1
      have hB6 : Below w.heap.size w w6 := (bcall (bcall hB0 hB0.size hb7) (by have := hb7.size; omega) hbA).grown hg6 (by have := hb7.size; simp; omega) (fun k hk => by have := hown k hk; omega)
      have g09 : w6.cell? ⟨w.heap.size, 0, none⟩ = some (.int .i64 wd) := gcellP hg6 (fun q => by have := hown _ q.symm; omega) g08
      have g19 : w6.cell? ⟨w.heap.size, 1, none⟩ = some (.slice a cs.length cap) := gcellP hg6 (fun q => by have := hown _ q.symm; omega) g18
      have hO9 : OwnI w6 (w.heap.size + 1) (.slice (some ⟨g6, 0, none⟩) (k + 1) k6) (LK ++ [R]) := by
        unfold OwnI
        rw [show (LK ++ [R]).length = k + 1 by simp [hll], show intsV (LK ++ [R]) = intsV LK ++ [.int .i64 R] by simp [intsV]]
        exact hO6
      refine hK.out _ _ ?_ (fun hHeld => ?_)
      · exact ⟨g09, g19⟩
      clear hK K
      (try simp only [Act.put, List.setIfInBounds_toArray, List.set_cons_zero, List.set_cons_succ])
      refine wpAnyH_take (i := 11) (oi := { dst := some 3, op := Go.Op.assign (Go.Operand.tmp 22), type := 26, pos := "l12_pic.go:9", after := #[{ on := 10, ground := Go.Ground.data }, { on := 10, ground := Go.Ground.chain }, { on := 0, ground := Go.Ground.phase }, { on := 1, ground := Go.Ground.phase }, { on := 2, ground := Go.Ground.phase }, { on := 3, ground := Go.Ground.phase }, { on := 4, ground := Go.Ground.phase }, { on := 5, ground := Go.Ground.phase }, { on := 6, ground := Go.Ground.phase }, { on := 7, ground := Go.Ground.phase }, { on := 8, ground := Go.Ground.phase }, { on := 9, ground := Go.Ground.phase }, { on := 10, ground := Go.Ground.phase }], guard := none }) (v := ?vp11) rfl (by kernel_rfl) (by kernel_rfl) (by kernel_rfl) (fun _ _ _ h => h) (Or.inl ⟨by rfl, ?hyp11⟩) (by assumption) ?restp11
      case hyp11 => (intro w hSw; (try dsimp only at hSw); go_simp; try (with_reducible rfl))
      (try simp only [Act.put, List.setIfInBounds_toArray, List.set_cons_zero, List.set_cons_succ])
      refine wpAnyH_done (by kernel_rfl) ?_ _
      go_wp2_with fail
      go_roundw
      case rel => exact ⟨k + 1, by omega, by go_num, by rw [HPS.out]; exact hO9, g09, g19, hCw.below hB6, hB6⟩
      case measure => simp [intOf]; omega
    · have hfin : k = M := by omega
      subst hfin
      have hkI : ¬ (k : Int) < (k : Int) := by omega
      go_wp2_with fail
      go_ret
      exact ⟨_, rfl, by rw [HPN.out]; exact ownsRow_mono hO0 (by omega), hB0⟩
end Go.Proofs.YtnochicpkcjjlaaDoor
