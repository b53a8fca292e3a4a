/- Of the proof: PGg -/
import Derived.Test.YtmmeapmlfopleaaGreatEBl
import Derived.Test.YtmmeapmlfopleaaGreatEBo
set_option maxHeartbeats 1000000
set_option linter.unusedVariables false
namespace Go.Proofs.YtmmeapmlfopleaaGreat
namespace Sp
open Go.RowKit
attribute [local go_sem ↓] Go.wp_at_zero Go.wp_at_succ
structure OffL (S : Nat -> Prop) (w w' : World) : Prop where
 os : w'.os = w.os
 tape : w'.tape = w.tape
 output : w'.output = w.output
 size : w.heap.size <= w'.heap.size
 block : ∀ k, k < w.heap.size -> ¬ S k -> w'.heap[k]? = w.heap[k]?
theorem OffL.refl (S : Nat -> Prop) (w : World) : OffL S w w := ⟨rfl, rfl, rfl, Nat.le_refl _, fun _ _ _ => rfl⟩
theorem OffL.grown {S : Nat -> Prop} {w w1 w2 : World} {g : Nat} (h : OffL S w w1) (hg : w1.grownBy w2 (some g)) (hs : S g) : OffL S w w2 :=
 ⟨hg.os.trans h.os, hg.tape.trans h.tape, hg.output.trans h.output, Nat.le_trans h.size hg.size, fun k hk hn => (hg.block k (Nat.lt_of_lt_of_le hk h.size) (fun e => hn (by cases e; exact hs))).trans (h.block k hk hn)⟩
theorem OffL.cell {S : Nat -> Prop} {w w' : World} (h : OffL S w w') {b o : Nat} {v : Value} (hg : ¬ S b) (hc : w.cell? ⟨b, o, none⟩ = some v) : w'.cell? ⟨b, o, none⟩ = some v := by
 rw [World.cell?_of_block (w := w) (h.block b (World.block_lt_of_cell? w _ hc) hg)]
 exact hc
theorem OffL.below {S : Nat -> Prop} {w0 w w' : World} {B : Nat} (h : OffL S w w') (hb : Below B w0 w) (hS : ∀ e, S e -> B <= e) (hz : B <= w.heap.size) : Below B w0 w' :=
 ⟨h.os.trans hb.os, h.tape.trans hb.tape, h.output.trans hb.output, Nat.le_trans hb.size h.size, fun k hk => (h.block k (by omega) (fun q => by have := hS k q; omega)).trans (hb.block k hk)⟩
theorem RI.offL {S : Nat -> Prop} {w w' : World} {g m : Nat} {f : Nat -> Int} (h : RI w (some ⟨g, 0, none⟩) m f) (ho : OffL S w w') (hn : ¬ S g) : RI w' (some ⟨g, 0, none⟩) m f := by
 rcases h with h | ⟨g', e, hl, hc⟩
 ·exact .inl h
 ·simp only [Option.some.injEq, Addr.mk.injEq, and_true] at e
  subst e
  exact .inr ⟨g, rfl, Nat.lt_of_lt_of_le hl ho.size, fun j hj => ⟨ho.cell hn (hc j hj).1, by rw [World.frozen?_of_block (w := w) (ho.block g hl hn)]; exact (hc j hj).2⟩⟩
theorem row_RI {w : World} {g M : Nat} {f : Nat -> Int} (h : RowB w g M f) : RI w (some ⟨g, 0, none⟩) (M * 1) f :=
 .inr ⟨g, rfl, h.lt, fun j hj => ⟨h.cell (by omega), h.thaw j⟩⟩
structure RowsY (w : World) (lo hi b M : Nat) (gf : Nat -> Nat) (f : Nat -> Nat -> Int) : Prop where
 out : lo <= b /\ b < hi
 cell : ∀ k, k < M -> w.cell? ⟨b, k, none⟩ = some (rowV M (gf k))
 row : ∀ k, k < M -> RI w (some ⟨gf k, 0, none⟩) (M * 1) (f k)
 lt : ∀ k, k < M -> (lo <= gf k /\ gf k < hi) /\ ¬ gf k = b
 inj : ∀ k k', k < M -> k' < M -> gf k = gf k' -> k = k'
 top : hi <= w.heap.size
def RowsX (w : World) (lo hi : Nat) (a : Option Addr) (M : Nat) (gf : Nat -> Nat) (f : Nat -> Nat -> Int) : Prop := M = 0 \/ ∃ b, a = some ⟨b, 0, none⟩ /\ RowsY w lo hi b M gf f
theorem RowsY.below {w w' : World} {lo hi b M : Nat} {gf : Nat -> Nat} {f : Nat -> Nat -> Int} (h : RowsY w lo hi b M gf f) (hb : Below w.heap.size w w') : RowsY w' lo hi b M gf f :=
 ⟨h.out, fun k hk => keepc hb (h.cell k hk), fun k hk => (h.row k hk).below hb, h.lt, h.inj, Nat.le_trans h.top hb.size⟩
theorem RowsX.below {w w' : World} {lo hi : Nat} {a : Option Addr} {M : Nat} {gf : Nat -> Nat} {f : Nat -> Nat -> Int} (h : RowsX w lo hi a M gf f) (hb : Below w.heap.size w w') : RowsX w' lo hi a M gf f := by
 rcases h with h | ⟨b, e, h⟩
 ·exact .inl h
 ·exact .inr ⟨b, e, h.below hb⟩
theorem RowsX.off {S : Nat -> Prop} {w w' : World} {lo hi : Nat} {a : Option Addr} {M : Nat} {gf : Nat -> Nat} {f : Nat -> Nat -> Int} (h : RowsX w lo hi a M gf f) (ho : OffL S w w') (hS : ∀ e, lo <= e -> e < hi -> ¬ S e) : RowsX w' lo hi a M gf f := by
 rcases h with h | ⟨b, e, h⟩
 ·exact .inl h
 ·exact .inr ⟨b, e, h.out, fun k hk => ho.cell (hS b h.out.1 h.out.2) (h.cell k hk), fun k hk => (h.row k hk).offL ho (hS _ (h.lt k hk).1.1 (h.lt k hk).1.2), h.lt, h.inj, Nat.le_trans h.top ho.size⟩
theorem RowsX.grown {w w' : World} {lo hi g : Nat} {a : Option Addr} {M : Nat} {gf : Nat -> Nat} {f : Nat -> Nat -> Int} (h : RowsX w lo hi a M gf f) (hg : w.grownBy w' (some g)) (hn : ¬ (lo <= g /\ g < hi)) : RowsX w' lo hi a M gf f :=
 h.off ((OffL.refl (fun e => e = g) w).grown hg rfl) (fun e h1 h2 q => hn (by subst q; exact ⟨h1, h2⟩))
theorem eqIntSS_same (a a2 : Option Addr) (c c2 M lo hi lo2 hi2 : Nat) (gf gf2 : Nat -> Nat) (f : Nat -> Nat -> Int) (w : World) (h : RowsX w lo hi a M gf f) (h2 : RowsX w lo2 hi2 a2 M gf2 f) (hm : M <= 1048576) :
  Calls SqP.prog 13 #[.slice a M c, .slice a2 M c2] w fun e w' => e = .returned (.bool true) /\ Below w.heap.size w w' := by
 have bl : ((M : Int) != (M : Int)) = false := by simp
 go_enter SqP.func13, Tryz.ntmps13
 go_wp2_with fail
 go_loopw [5] (fun ii wr => ∃ i : Nat, i <= M /\ ii = .int .i64 i /\ Below w.heap.size w wr) (fun ii _ => M - (intOf ii).toNat)
 case atStart => exact ⟨0, Nat.zero_le _, rfl, Below.refl _ _⟩
 case round =>
  rename World => wo
  obtain ⟨i, hi, rfl, hb⟩ := hrel
  have hzo := hb.size
  by_cases hlt : i < M
  ·rcases h.below hb with q | ⟨b, rfl, hy⟩
   ·omega
   rcases h2.below hb with q | ⟨b2, rfl, hy2⟩
   ·omega
   have x0 := hy.cell i hlt
   have r0 := hy.row i hlt
   have y0 := hy2.cell i hlt
   have r2 := hy2.row i hlt
   obtain ⟨g, eg⟩ : ∃ g, gf i = g := ⟨_, rfl⟩
   obtain ⟨g2, eg2⟩ : ∃ g, gf2 i = g := ⟨_, rfl⟩
   rw [eg] at x0 r0
   rw [eg2] at y0 r2
   have hltI : (i : Int) < (M : Int) := by omega
   have wk : IntKind.i64.wrap ((i : Int) + 1) = (i : Int) + 1 := IntWalk.i64_in _ (by omega)
   clear h h2 hy hy2 eg eg2
   go_wp2
   go_region_held3 (fun w' => w'.cell? ⟨b, i, none⟩ = some (rowV M g) /\ w'.cell? ⟨b2, i, none⟩ = some (rowV M g2))
    (first
     | exact ⟨keepc hb7 x0, keepc hb7 y0⟩
     | exact ⟨x0, y0⟩
     | go_keep)
    (first
     | (go_at_call 31; refine (eqIntS_same (some ⟨g, 0, none⟩) (some ⟨g2, 0, none⟩) M M M (f i) _ (r0.below (by first | exact Below.refl _ _ | exact (Below.refl _ _).drew)) (r2.below (by first | exact Below.refl _ _ | exact (Below.refl _ _).drew)) hm).mono ?_; rintro e w7 ⟨rfl, hb7'⟩; have hb7 : Below wo.heap.size wo w7 := (by first | exact hb7' | exact bdrew hb7'))
     | fail)
   all_goals
    have hb8 := bcall hb hzo hb7
    go_wp2_with fail
    go_roundw
    case rel => exact ⟨i + 1, by omega, by go_num, by first | exact hb8 | exact hb8.drew⟩
    case measure => simp [intOf]; omega
  ·have hnl : ¬ (i : Int) < (M : Int) := by omega
   go_wp2_with fail
   go_ret
   exact ⟨rfl, hb⟩
theorem markIntSS_any (a : Option Addr) (c M lo hi : Nat) (gf : Nat -> Nat) (f : Nat -> Nat -> Int) (w : World) (h : RowsX w lo hi a M gf f) (hm : M <= 20) :
  Calls SqP.prog 16 #[.slice a M c, .int .i64 1] w fun e w' => e = .returned (.int .i64 (1 + ((M * M : Nat) : Int))) /\ RowsX w' lo hi a M gf (fun k j => 1 + ((k * M : Nat) : Int) + (j : Int)) /\ OffL (fun e => ∃ k, k < M /\ e = gf k) w w' := by
 go_enter SqP.func16, Tryz.ntmps16
 go_wp2_with fail
 go_loopw [1, 5] (fun v ii wr => ∃ i : Nat, i <= M /\ ii = .int .i64 i /\ v = .int .i64 (1 + ((i * M : Nat) : Int)) /\ RowsX wr lo hi a M gf (fun k j => if k < i then 1 + ((k * M : Nat) : Int) + (j : Int) else f k j) /\ OffL (fun e => ∃ k, k < M /\ e = gf k) w wr) (fun _ ii _ => M - (intOf ii).toNat)
 case atStart => exact ⟨0, Nat.zero_le _, rfl, by simp, by simpa using h, OffL.refl _ _⟩
 case round =>
  rename World => wo
  obtain ⟨i, hi', rfl, rfl, hR, hof⟩ := hrel
  by_cases hlt : i < M
  ·rcases hR with q | ⟨b, rfl, hy⟩
   ·omega
   have x0 := hy.cell i hlt
   have r0 := hy.row i hlt
   have hltI : (i : Int) < (M : Int) := by omega
   have wk : IntKind.i64.wrap ((i : Int) + 1) = (i : Int) + 1 := IntWalk.i64_in _ (by omega)
   have hpM : i * M <= 400 := Nat.le_trans (Nat.mul_le_mul (by omega : i <= 20) hm) (by omega)
   have hp1 : (i + 1) * M = i * M + M := Nat.succ_mul i M
   obtain ⟨p, hp⟩ : ∃ p, i * M = p := ⟨_, rfl⟩
   rw [hp] at hpM hp1 ⊢
   have HP : Hid (i * M = p) := hp
   have HP1 : Hid ((i + 1) * M = p + M) := hp1
   clear hp hp1 h
   go_wp2_with fail
   refine (markIntS_any (1 + (p : Int)) (some ⟨gf i, 0, none⟩) M M _ _ r0 (by omega) (by omega)).mono ?_
   rintro e w7 ⟨rfl, hr7, hg7⟩
   have hg7' : wo.grownBy w7 (some (gf i)) := hg7
   have ho7 := (OffL.refl (fun e => e = gf i) wo).grown hg7' rfl
   have hof7 := hof.grown hg7' ⟨i, hlt, rfl⟩
   have hy7 : RowsY w7 lo hi b M gf (fun k j => if k < i + 1 then 1 + ((k * M : Nat) : Int) + (j : Int) else f k j) := by
    refine ⟨hy.out, fun k hk => ho7.cell (fun q => (hy.lt i hlt).2 q.symm) (hy.cell k hk), fun k hk => ?_, hy.lt, hy.inj, Nat.le_trans hy.top ho7.size⟩
    by_cases e : k = i
    ·subst e
     refine hr7.like fun j hj => ?_
     rw [if_pos (by omega), HP.out]
    ·refine ((hy.row k hk).offL ho7 (fun q => e (hy.inj k i hk hlt q))).like fun j hj => ?_
     by_cases e2 : k < i
     ·rw [if_pos (by omega), if_pos e2]
     ·rw [if_neg (by omega), if_neg e2]
   have hv : (1 + (p : Int)) + 1 * (M : Int) = 1 + (((i + 1) * M : Nat) : Int) := by rw [HP1.out]; omega
   rw [hv]
   clear hy hof hr7 hg7 hg7' ho7 hv
   go_wp2_with fail
   go_roundw
   case rel => exact ⟨i + 1, by omega, by go_num, rfl, .inr ⟨b, rfl, hy7⟩, hof7⟩
   case measure => simp [intOf]; omega
  ·have hiM : i = M := by omega
   subst hiM
   have hnl : ¬ (i : Int) < (i : Int) := by omega
   have hR2 : RowsX wo lo hi a i gf (fun k j => 1 + ((k * i : Nat) : Int) + (j : Int)) := by
    rcases hR with q | ⟨b, e, hy⟩
    ·exact .inl q
    ·exact .inr ⟨b, e, hy.out, hy.cell, fun k hk => (hy.row k hk).like fun j hj => by rw [if_pos hk], hy.lt, hy.inj, hy.top⟩
   clear hR h
   go_wp2_with fail
   go_ret
   exact ⟨rfl, hR2, hof⟩
theorem heldIntSS_any (a : Option Addr) (c M lo hi : Nat) (gf : Nat -> Nat) (w : World) (h : RowsX w lo hi a M gf (fun k j => 1 + ((k * M : Nat) : Int) + (j : Int))) (hm : M <= 20) :
  Calls SqP.prog 17 #[.slice a M c, .int .i64 1] w fun e w' => e = .returned (.int .i64 (1 + ((M * M : Nat) : Int))) /\ w' = w := by
 go_enter SqP.func17, Tryz.ntmps17
 go_wp2_with fail
 go_loopw [1, 5] (fun v ii wr => ∃ i : Nat, i <= M /\ ii = .int .i64 i /\ v = .int .i64 (1 + ((i * M : Nat) : Int)) /\ wr = w) (fun _ ii _ => M - (intOf ii).toNat)
 case atStart => exact ⟨0, Nat.zero_le _, rfl, by simp, rfl⟩
 case round =>
  rename World => wo
  obtain ⟨i, hi', rfl, rfl, ew⟩ := hrel
  subst ew
  by_cases hlt : i < M
  ·rcases h with q | ⟨b, rfl, hy⟩
   ·omega
   have x0 := hy.cell i hlt
   have r0 := hy.row i hlt
   have hltI : (i : Int) < (M : Int) := by omega
   have wk : IntKind.i64.wrap ((i : Int) + 1) = (i : Int) + 1 := IntWalk.i64_in _ (by omega)
   have hpM : i * M <= 400 := Nat.le_trans (Nat.mul_le_mul (by omega : i <= 20) hm) (by omega)
   have hp1 : (i + 1) * M = i * M + M := Nat.succ_mul i M
   obtain ⟨p, hp⟩ : ∃ p, i * M = p := ⟨_, rfl⟩
   simp only [hp] at r0
   rw [hp] at hpM hp1 ⊢
   have HP1 : Hid ((i + 1) * M = p + M) := hp1
   have hv : (1 + (p : Int)) + 1 * (M : Int) = 1 + (((i + 1) * M : Nat) : Int) := by rw [hp1]; omega
   have bneg : decide ((1 + (p : Int)) + 1 * (M : Int) < 0) = false := decide_eq_false (by omega)
   rw [hv] at bneg
   have HV : Hid ((1 + (p : Int)) + 1 * (M : Int) = 1 + (((i + 1) * M : Nat) : Int)) := hv
   obtain ⟨z, hz⟩ : ∃ z : Int, 1 + (((i + 1) * M : Nat) : Int) = z := ⟨_, rfl⟩
   have HZ : Hid (1 + (((i + 1) * M : Nat) : Int) = z) := hz
   rw [hz] at bneg
   clear hp hp1 hv hz hy
   go_wp2_with fail
   refine (heldIntS_any (1 + (p : Int)) (some ⟨gf i, 0, none⟩) M M _ r0 (by omega) (by omega)).mono ?_
   rintro e w7 ⟨rfl, rfl⟩
   rw [HV.out, HZ.out]
   go_wp2_with fail
   go_roundw
   case rel => exact ⟨i + 1, by omega, by go_num, by rw [HZ.out], by first | rfl | trivial⟩
   case measure => simp [intOf]; omega
  ·have hiM : i = M := by omega
   subst hiM
   have hnl : ¬ (i : Int) < (i : Int) := by omega
   clear h
   go_wp2_with fail
   go_ret
   exact ⟨rfl, rfl⟩
def AnsR (w : World) (M : Nat) (f : Nat -> Nat -> Int) (r : Ending) (w' : World) : Prop := ∃ a2 c2 gf, r = .returned (.slice a2 M c2) /\ RowsX w' w.heap.size w'.heap.size a2 M gf f /\ Below w.heap.size w w'
theorem toNN (wd : Int) (cs : List (Int × Int)) (hm : cs.length <= 1048576) :
  (∀ (a : Option Addr) (cap : Nat) (w : World), CellsAt w a cs -> Calls SqP.prog 6 #[.agg #[.int .i64 wd, .slice a cs.length cap]] w (AnsR w (manyN wd cs) (fun k j => toN wd cs (k : Int) (j : Int)))) /\
  (∀ (a : Option Addr) (cap : Nat) (w : World), CellsAt w a cs -> Calls SqP.prog 8 #[.agg #[.int .i64 wd, .slice a cs.length cap]] w (AnsR w (manyN wd cs) (fun k j => toN wd cs (k : Int) (j : Int)))) := by
 have ginj : ∀ {gs : List Nat} {M : Nat}, gs.length = M -> gs.Nodup -> ∀ k k', k < M -> k' < M -> gs.getD k 0 = gs.getD k' 0 -> k = k' := fun {gs M} hl hn k k' h h' e => by
  have n1 : k < gs.length := by omega
  have n2 : k' < gs.length := by omega
  rw [List.getD_eq_getElem?_getD, List.getD_eq_getElem?_getD, List.getElem?_eq_getElem n1, List.getElem?_eq_getElem n2, Option.getD_some, Option.getD_some] at e
  exact (List.getElem_inj hn).1 e
 rcases hk : okG wd cs with _ | _
 ·have e : manyN wd cs = 0 := by unfold manyN; rw [manyG_bad hk]; rfl
  rw [e]
  exact ⟨fun a cap w h => (toNo_any wd a cap cs w h (by omega) hk).mono fun e w' h => ⟨none, 0, fun _ => 0, h.1, .inl rfl, h.2⟩, fun a cap w h => (specTo_no wd a cap cs w h hm hk).mono fun e w' ⟨a2, h1, h2⟩ => ⟨a2, 0, fun _ => 0, h1, .inl rfl, h2⟩⟩
 ·refine ⟨fun a cap w h => ?_, fun a cap w h => ?_⟩
  ·refine (toYes_any wd a cap cs w h hk (manyN wd cs) (manyN_in wd cs).1).mono ?_
   rintro e w' ⟨g, gs, rfl, hR, hb⟩
   have hgl := (Array.getElem?_eq_some_iff.1 hR.all).1
   refine ⟨_, _, fun k => gs.getD k 0, rfl, .inr ⟨g, rfl, ⟨hR.new, hgl⟩, fun k hk => ?_, fun k hk => row_RI (hR.row k hk), fun k hk => ?_, ginj hR.len hR.nodup, Nat.le_refl _⟩, hb⟩
   ·rw [cell_of_row _ _ _ _ _ _ hR.all]
    simp [hk]
   ·have q := hR.apart _ (mem_getD (gs := gs) (j := k) (by rw [hR.len]; exact hk))
    exact ⟨⟨q.1, (hR.row k hk).lt⟩, q.2⟩
  ·obtain ⟨W, H, S⟩ := siz_of hk
   have hM := (manyN_in wd cs).1
   rw [S.em] at hM
   have hM1 : 0 < manyN wd cs := by have := S.hW; omega
   refine (specTo_yes S a cap w h hm (manyN wd cs) (by omega)).mono ?_
   rintro e w' ⟨v, gs, rfl, hgl, hO, hb⟩
   obtain ⟨b3, c3, rfl, hb3n, hb3l⟩ := own_form' hO.own (by rw [hgl]; exact hM1)
   refine ⟨_, c3, fun k => gs.getD k 0, by rw [hgl], .inr ⟨b3, rfl, ⟨hb3n, hb3l⟩, fun k hk => ?_, fun k hk => row_RI (hO.row k (by rw [hgl]; exact hk)), fun k hk => ?_, ginj hgl hO.nodup, Nat.le_refl _⟩, hb⟩
   ·rw [World.ownsRow.cellAt hO.own k (by rw [hgl, Nat.mul_one]; exact hk)]
    simp [List.getD_eq_getElem?_getD, hgl, hk]
   ·have hm' := mem_getD (gs := gs) (j := k) (by rw [hgl]; exact hk)
    exact ⟨⟨(hO.new _ hm').1, (hO.row k (by rw [hgl]; exact hk)).lt⟩, fun q => (hO.new _ hm').2 (by simp [Value.ownBlock]; exact q.symm)⟩
end Sp
end Go.Proofs.YtmmeapmlfopleaaGreat
