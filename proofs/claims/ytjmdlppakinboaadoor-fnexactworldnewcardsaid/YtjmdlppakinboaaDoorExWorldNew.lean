/-
  'laws.FnExactWorldNew' returns true for every grid and every number of painters: impl.WorldNew answers as spec.WorldNew, writes into no argument, keeps nothing of one, and its answer owns its memory, behind another call too. The variable of the library that its row lists (errors.errorType) is as its text lays it (the tied card).
-/
import Derived.Test.YtjmdlppakinboaaDoorKv
import Derived.Test.YtjmdlppakinboaaDoorKw
import Derived.Test.YtjmdlppakinboaaDoorKx
import Derived.Test.YtjmdlppakinboaaDoorJq
import Derived.Test.YtjmdlppakinboaaDoorFa
import Derived.Test.YtjmdlppakinboaaDoorCards
import Derived.Test.YtjmdlppakinboaaDoorTie
import Derived.ProofKit
import Derived.LaidMore
import Derived.LaidHandle
import Derived.Stop.Joined
import Derived.Stop.LaidErr
import Derived.SevenTiedAt
import Derived.Lib.LaidTab
namespace Go.Proofs.YtjmdlppakinboaaDoor.ExWorldNew
open Go.ChangeShapes Go.WideShapes Go.ChangeAt Go.RowKit Go.Joins Go.Deep
set_option linter.unusedVariables false
set_option linter.unusedSimpArgs false

set_option maxRecDepth 100000 in
set_option maxHeartbeats 4000000 in
theorem walk (wd : Int) (a : Option Addr) (cap : Nat) (cs : List (Int × Int)) (many : Int) (w : World) (hC : CellsAt w a cs) (hm : cs.length ≤ 9223372036854775807) (hwf : (Lit.int .i64 many).wf = true) (hE : ErrV w) :
    Calls Tryd.prog 4 #[.agg #[.int .i64 wd, .slice a cs.length cap], .int .i64 many] w fun e w' => e = .returned (.bool true) ∧ Below w.heap.size w w' := by
  by_cases hbig : (1048576 : Int) - cs.length < 0
  · go_enter Tryd.func4, Tryd.ntmps4
    go_wp2_with fail
    refine (szGrid_any _ _ _ _ _ _ hm (by omega)).mono ?_
    rintro e w1 ⟨rfl, hb1⟩
    go_wp2
    go_ret
    exact ⟨rfl, bcall (by repeat (first | exact Below.refl _ _ | refine Below.alloc ?_ (by first | exact Nat.le_refl _ | (simp; done) | (simp; omega)) _ | refine Below.drew ?_ | refine Below.setCell ?_ (by first | exact Nat.le_refl _ | (simp; done) | (simp; omega)) _)) (by simp) hb1⟩
  have hm2 : cs.length ≤ 1048576 := by omega
  obtain ⟨ok, hok⟩ : ∃ ok, startOk wd cs many = ok := ⟨_, rfl⟩
  obtain ⟨⟨tw, tc, tn⟩, ht⟩ : ∃ t, keepAns wd cs many = t := ⟨_, rfl⟩
  obtain ⟨hlen, htn⟩ := keepAns_len _ _ _ _ _ _ ht
  have CS : Hid (∀ (a : Option Addr) (cap : Nat) (w : World), CellsAt w a cs → Calls Tryd.prog 14 #[.agg #[.int .i64 wd, .slice a cs.length cap], .int .i64 many] w fun e w' => ∃ (a1 b1 e1 g1 i1 k1 : Option Addr) (c1 d1 f1 h1 j1 l1 : Nat), e = .returned (.tuple #[.agg #[.int .i64 tw, .slice a1 tc.length c1, .slice b1 0 d1, .slice e1 tn f1, .slice g1 0 h1, .slice i1 tn j1, .slice k1 0 l1], .bool ok]) ∧ Wp w' w.heap.size (.agg #[.int .i64 tw, .slice a1 tc.length c1, .slice b1 0 d1, .slice e1 tn f1, .slice g1 0 h1, .slice i1 tn j1, .slice k1 0 l1]) tw tc tn (fun _ => false) (fun _ => 0) (fun _ => true) (fun _ => false) (fun _ => 0) (fun _ => 0) (.slice a1 tc.length c1) (.slice e1 tn f1) (.slice i1 tn j1) b1 g1 k1 d1 h1 l1 ∧ Below w.heap.size w w') := fun a cap w h => specWorldNew_any wd cs many hm2 ok hok tw tc tn ht a cap w h
  have CI : Hid (∀ (a : Option Addr) (cap : Nat) (w : World), CellsAt w a cs → ErrV w → Calls Tryd.prog 15 #[.agg #[.int .i64 wd, .slice a cs.length cap], .int .i64 many] w fun e w' => ∃ (a1 b1 e1 g1 i1 k1 : Option Addr) (c1 d1 f1 h1 j1 l1 : Nat), e = .returned (.tuple #[.agg #[.int .i64 tw, .slice a1 tc.length c1, .slice b1 0 d1, .slice e1 tn f1, .slice g1 0 h1, .slice i1 tn j1, .slice k1 0 l1], .bool ok]) ∧ Wp w' w.heap.size (.agg #[.int .i64 tw, .slice a1 tc.length c1, .slice b1 0 d1, .slice e1 tn f1, .slice g1 0 h1, .slice i1 tn j1, .slice k1 0 l1]) tw tc tn (fun _ => false) (fun _ => 0) (fun _ => true) (fun _ => false) (fun _ => 0) (fun _ => 0) (.slice a1 tc.length c1) (.slice e1 tn f1) (.slice i1 tn j1) b1 g1 k1 d1 h1 l1 ∧ Below w.heap.size w w') := fun a cap w h hE => implWorldNew_any wd cs many hm2 ok hok tw tc tn ht a cap w h hE
  have htl : tc.length ≤ 1048576 := by omega
  have htn2 : tn ≤ 1048576 := by omega
  have heq2 : eqG wd wd cs cs = true := by simp [eqG]
  have eok : (ok != ok) = false := by simp
  have hE' : Hid (ErrV w) := hE
  clear ht hlen hok hE
  go_enter Tryd.func4, Tryd.ntmps4
  go_wp2_with fail
  refine (szGrid_any _ _ _ _ _ _ hm (by omega)).mono ?_
  rintro e w1 ⟨rfl, hb1⟩
  have hz1 := hb1.size
  simp at hz1
  have hB1 : Below w.heap.size w w1 := bcall (by repeat (first | exact Below.refl _ _ | refine Below.alloc ?_ (by first | exact Nat.le_refl _ | (simp; done) | (simp; omega)) _ | refine Below.drew ?_ | refine Below.setCell ?_ (by first | exact Nat.le_refl _ | (simp; done) | (simp; omega)) _)) (by simp) hb1
  have p0 : w1.cell? ⟨w.heap.size, 0, none⟩ = some (.int .i64 wd) := keepc hb1 (by simp [go_sem])
  have p1 : w1.cell? ⟨w.heap.size, 1, none⟩ = some (.slice a cs.length cap) := keepc hb1 (by simp [go_sem])
  clear hb1
  -- what is wanted
  go_wp2_with fail
  refine (toGrid_any _ _ _ cs _ (hC.below hB1) hm2).mono ?_
  rintro e w2 ⟨g2, rfl, hO2, hb2⟩
  have hz2 := hb2.size
  have hB2 : Below w.heap.size w w2 := bcall hB1 (by omega) hb2
  replace p0 := keepc hb2 p0; replace p1 := keepc hb2 p1
  obtain ⟨a2, c2, e2, hC2⟩ := hO2.slice
  simp only [Value.slice.injEq] at e2
  obtain ⟨rfl, _, rfl⟩ := e2
  clear hb2 hO2
  go_wp2_with fail
  refine (CS.out _ _ _ hC2).mono ?_
  rintro e w3 ⟨a3, b3, e3, g3, i3, k3, c3, d3, f3, h3, j3, l3, rfl, hK3, hb3⟩
  have hz3 := hb3.size
  have hB3 : Below w.heap.size w w3 := bcall hB2 (by omega) hb3
  replace p0 := keepc hb3 p0; replace p1 := keepc hb3 p1
  clear hb3 hC2
  -- its box
  have hbX : Below w3.heap.size w3 (w3.alloc (.cells #[.int .i64 tw, .slice a3 tc.length c3, .slice b3 0 d3, .slice e3 tn f3, .slice g3 0 h3, .slice i3 tn j3, .slice k3 0 l3] 45)) := (by repeat (first | exact Below.refl _ _ | refine Below.alloc ?_ (by first | exact Nat.le_refl _ | (simp; done) | (simp; omega)) _ | refine Below.drew ?_ | refine Below.setCell ?_ (by first | exact Nat.le_refl _ | (simp; done) | (simp; omega)) _))
  have RK3 : ∀ k, w2.heap.size ≤ k → k < w3.heap.size → w2.heap.size ≤ k ∧ k < w3.heap.size := fun k q1 q2 => ⟨q1, q2⟩
  have R3c := hK3.kp.own.range
  have R3p := hK3.kp.parts.range
  have R3q := hK3.paint.range
  replace hK3 := hK3.below hbX
  obtain ⟨q0, q1, q2, q3, q4, q5, q6⟩ := (Box7.new w3 (.int .i64 tw) (.slice a3 tc.length c3) (.slice b3 0 d3) (.slice e3 tn f3) (.slice g3 0 h3) (.slice i3 tn j3) (.slice k3 0 l3)).cells
  have hBX := bcall hB3 (by omega) hbX
  have s3 : w.heap.size < w3.heap.size := by omega
  have hp0 := keepc hbX p0
  have hp1 := keepc hbX p1
  go_wp2_with fail
  refine (toGrid_any _ _ _ cs _ (hC.below hBX) hm2).mono ?_
  rintro e w4 ⟨gx, rfl, hOx, hb4⟩
  have hz4 := hb4.size
  simp at hz4
  have hB4 : Below w.heap.size w w4 := bcall hBX (by simp; omega) hb4
  replace hK3 := hK3.below hb4
  have Rx := hOx.lt
  simp at Rx
  replace p0 := keepc hb4 hp0
  replace p1 := keepc hb4 hp1
  replace q0 := keepc hb4 q0; replace q1 := keepc hb4 q1; replace q2 := keepc hb4 q2; replace q3 := keepc hb4 q3; replace q4 := keepc hb4 q4; replace q5 := keepc hb4 q5; replace q6 := keepc hb4 q6
  clear hb4 hbX hBX hp0 hp1
  -- the argument's box
  have hbY : Below w4.heap.size w4 (w4.alloc (.cells #[.int .i64 wd, .slice (some ⟨gx, 0, none⟩) cs.length cs.length] 28)) := (by repeat (first | exact Below.refl _ _ | refine Below.alloc ?_ (by first | exact Nat.le_refl _ | (simp; done) | (simp; omega)) _ | refine Below.drew ?_ | refine Below.setCell ?_ (by first | exact Nat.le_refl _ | (simp; done) | (simp; omega)) _))
  have hOxY := hOx.below hbY
  obtain ⟨ax, cx, ex, hCx⟩ := hOxY.slice
  simp only [Value.slice.injEq] at ex
  obtain ⟨rfl, _, rfl⟩ := ex
  have s4 : w.heap.size < w4.heap.size := by omega
  have s4' : w3.heap.size < w4.heap.size := by omega
  have hE4 := hE'.out.below' (bcall hB4 (by omega) hbY)
  go_wp2_with fail
  refine (CI.out _ _ _ hCx hE4).mono ?_
  rintro e w5 ⟨a5, b5, e5, g5, i5, k5, c5, d5, f5, h5, j5, l5, rfl, hK5, hb5⟩
  have hz5 := hb5.size
  simp at hz5
  have R5c := hK5.kp.own.range
  have R5p := hK5.kp.parts.range
  have R5q := hK5.paint.range
  simp only [World.size_alloc] at R5c R5p R5q
  have r0 : w5.cell? ⟨w4.heap.size, 0, none⟩ = some (.int .i64 wd) := keepc hb5 (by simp [go_sem])
  have r1 : w5.cell? ⟨w4.heap.size, 1, none⟩ = some (.slice (some ⟨gx, 0, none⟩) cs.length cs.length) := keepc hb5 (by simp [go_sem])
  have hb45 : Below w4.heap.size w4 w5 := bcall hbY (by simp) hb5
  have hB5 : Below w.heap.size w w5 := bcall hB4 (by omega) hb45
  replace hK3 := hK3.below hb45
  replace hOx := hOx.below hb45
  replace p0 := keepc hb45 p0; replace p1 := keepc hb45 p1; replace q0 := keepc hb45 q0; replace q1 := keepc hb45 q1; replace q2 := keepc hb45 q2; replace q3 := keepc hb45 q3; replace q4 := keepc hb45 q4; replace q5 := keepc hb45 q5; replace q6 := keepc hb45 q6
  clear hb5 hbY hb45 hOxY hCx hE4
  -- the answer's box
  have hbZ : Below w5.heap.size w5 (w5.alloc (.cells #[.int .i64 tw, .slice a5 tc.length c5, .slice b5 0 d5, .slice e5 tn f5, .slice g5 0 h5, .slice i5 tn j5, .slice k5 0 l5] 45)) := (by repeat (first | exact Below.refl _ _ | refine Below.alloc ?_ (by first | exact Nat.le_refl _ | (simp; done) | (simp; omega)) _ | refine Below.drew ?_ | refine Below.setCell ?_ (by first | exact Nat.le_refl _ | (simp; done) | (simp; omega)) _))
  obtain ⟨u0, u1, u2, u3, u4, u5, u6⟩ := (Box7.new w5 (.int .i64 tw) (.slice a5 tc.length c5) (.slice b5 0 d5) (.slice e5 tn f5) (.slice g5 0 h5) (.slice i5 tn j5) (.slice k5 0 l5)).cells
  have s5 : w.heap.size < w5.heap.size := by omega
  have s5' : w3.heap.size < w5.heap.size := by omega
  have s5'' : w4.heap.size < w5.heap.size := by omega
  replace hK3 := hK3.below hbZ
  replace hK5 := hK5.below hbZ
  replace hOx := hOx.below hbZ
  have P0 := keepc hbZ p0
  have P1 := keepc hbZ p1
  have Q0 := keepc hbZ q0
  have Q1 := keepc hbZ q1
  have Q2 := keepc hbZ q2
  have Q3 := keepc hbZ q3
  have Q4 := keepc hbZ q4
  have Q5 := keepc hbZ q5
  have Q6 := keepc hbZ q6
  have R0 := keepc hbZ r0
  have R1 := keepc hbZ r1
  have hB5Z := bcall hB5 (by omega) hbZ
  go_wp2_with fail
  refine (eqWorld_same _ _ _ tn tc _ _ _ _ _ _ _ _ _ _ _ _ _ _ _ _ _ _ _ _ _ _ _ _ _ _ _ _ _ _ _ hK5 hK3 htl htn2).mono ?_
  rintro e w6 ⟨rfl, hb6⟩
  have hz6 := hb6.size
  simp at hz6
  replace p0 := P0
  replace p1 := P1
  replace q0 := Q0
  replace q1 := Q1
  replace q2 := Q2
  replace q3 := Q3
  replace q4 := Q4
  replace q5 := Q5
  replace q6 := Q6
  replace r0 := R0
  replace r1 := R1
  have hB6 : Below w.heap.size w w6 := bcall hB5Z (by simp; omega) hb6
  replace hK3 := hK3.below hb6
  replace hK5 := hK5.below hb6
  replace hOx := hOx.below hb6
  replace p0 := keepc hb6 p0; replace p1 := keepc hb6 p1; replace q0 := keepc hb6 q0; replace q1 := keepc hb6 q1; replace q2 := keepc hb6 q2; replace q3 := keepc hb6 q3; replace q4 := keepc hb6 q4; replace q5 := keepc hb6 q5; replace q6 := keepc hb6 q6; replace r0 := keepc hb6 r0; replace r1 := keepc hb6 r1; replace u0 := keepc hb6 u0; replace u1 := keepc hb6 u1; replace u2 := keepc hb6 u2; replace u3 := keepc hb6 u3; replace u4 := keepc hb6 u4; replace u5 := keepc hb6 u5; replace u6 := keepc hb6 u6
  clear hb6 hbZ hB5Z P0 P1 Q0 Q1 Q2 Q3 Q4 Q5 Q6 R0 R1
  go_wp2
  go_region_held3 (fun w' => w'.cell? ⟨w4.heap.size, 0, none⟩ = some (.int .i64 wd) ∧ w'.cell? ⟨w4.heap.size, 1, none⟩ = some (.slice (some ⟨gx, 0, none⟩) cs.length cs.length) ∧ w'.cell? ⟨w.heap.size, 0, none⟩ = some (.int .i64 wd) ∧ w'.cell? ⟨w.heap.size, 1, none⟩ = some (.slice a cs.length cap))
    (first
      | exact ⟨keepc hb8 (keepc hb7 r0), keepc hb8 (keepc hb7 r1), keepc hb8 (keepc hb7 p0), keepc hb8 (keepc hb7 p1)⟩
      | exact ⟨keepc hb7 r0, keepc hb7 r1, keepc hb7 p0, keepc hb7 p1⟩
      | go_keep)
    (first
      | (go_at_call 7; refine (toGrid_any _ _ _ cs _ (hC.below (by first | exact hB6 | exact hB6.drew)) hm2).mono ?_; rintro e w7 ⟨g7, rfl, hO7, hb7'⟩; have hb7 : Below w6.heap.size w6 w7 := (by first | exact hb7' | exact bdrew hb7'))
      | (go_at_call 10; refine (eqGrid_own _ _ _ _ _ _ cs cs _ (hOx.below hb7) hO7 hm2 hm2).mono ?_; rintro e w8 ⟨rfl, hb8'⟩; have hb8 : Below w7.heap.size w7 w8 := (by first | exact hb8' | exact bdrew hb8')))
  have hb68 : Below w6.heap.size w6 w8 := bcall hb7 hb7.size hb8
  have hz8 := hb68.size
  have hB8 : Below w.heap.size w w8 := bcall hB6 (by omega) hb68
  replace hK3 := hK3.below hb68
  replace hK5 := hK5.below hb68
  replace hOx := hOx.below hb68
  replace p0 := keepc hb68 p0; replace p1 := keepc hb68 p1; replace q0 := keepc hb68 q0; replace q1 := keepc hb68 q1; replace q2 := keepc hb68 q2; replace q3 := keepc hb68 q3; replace q4 := keepc hb68 q4; replace q5 := keepc hb68 q5; replace q6 := keepc hb68 q6; replace r0 := keepc hb68 r0; replace r1 := keepc hb68 r1; replace u0 := keepc hb68 u0; replace u1 := keepc hb68 u1; replace u2 := keepc hb68 u2; replace u3 := keepc hb68 u3; replace u4 := keepc hb68 u4; replace u5 := keepc hb68 u5; replace u6 := keepc hb68 u6
  clear hb7 hb7' hb8 hb8' hO7 hb68
  -- the argument is marked
  go_wp2_with fail
  refine (markGrid_own _ _ _ _ cs _ hOx hm2 (by omega)).mono ?_
  rintro e w9 ⟨rfl, _, hg9⟩
  have hz9 := hg9.size
  have n1 : some w.heap.size ≠ (Value.slice (some ⟨gx, 0, none⟩) cs.length cs.length).ownBlock := by simp [Value.ownBlock]; omega
  have n2 : some w3.heap.size ≠ (Value.slice (some ⟨gx, 0, none⟩) cs.length cs.length).ownBlock := by simp [Value.ownBlock]; omega
  have n3 : some w5.heap.size ≠ (Value.slice (some ⟨gx, 0, none⟩) cs.length cs.length).ownBlock := by simp [Value.ownBlock]; omega
  have hB9 : Below w.heap.size w w9 := hB8.grown hg9 (by omega) (fun k hk => by simp [Value.ownBlock] at hk; omega)
  replace hK3 := hK3.kept hg9 (fun k hk e => by have := R3c k hk; simp [Value.ownBlock] at e; omega) (fun k hk e => by have := R3p k hk; simp [Value.ownBlock] at e; omega) (fun k hk e => by have := R3q k hk; simp [Value.ownBlock] at e; omega)
  replace hK5 := hK5.kept hg9 (fun k hk e => by have := R5c k hk; simp [Value.ownBlock] at e; omega) (fun k hk e => by have := R5p k hk; simp [Value.ownBlock] at e; omega) (fun k hk e => by have := R5q k hk; simp [Value.ownBlock] at e; omega)
  replace p0 := keepg hg9 n1 p0
  replace p1 := keepg hg9 n1 p1
  replace q0 := keepg hg9 n2 q0
  replace q1 := keepg hg9 n2 q1
  replace q2 := keepg hg9 n2 q2
  replace q3 := keepg hg9 n2 q3
  replace q4 := keepg hg9 n2 q4
  replace q5 := keepg hg9 n2 q5
  replace q6 := keepg hg9 n2 q6
  replace u0 := keepg hg9 n3 u0
  replace u1 := keepg hg9 n3 u1
  replace u2 := keepg hg9 n3 u2
  replace u3 := keepg hg9 n3 u3
  replace u4 := keepg hg9 n3 u4
  replace u5 := keepg hg9 n3 u5
  replace u6 := keepg hg9 n3 u6
  clear hg9 n1 n2 n3 hOx r0 r1
  go_wp2_with fail
  refine (eqWorld_same _ _ _ tn tc _ _ _ _ _ _ _ _ _ _ _ _ _ _ _ _ _ _ _ _ _ _ _ _ _ _ _ _ _ _ _ hK5 hK3 htl htn2).mono ?_
  rintro e w10 ⟨rfl, hb10⟩
  have hz10 := hb10.size
  have hB10 : Below w.heap.size w w10 := bcall hB9 (by omega) hb10
  replace hK3 := hK3.below hb10
  replace hK5 := hK5.below hb10
  replace p0 := keepc hb10 p0; replace p1 := keepc hb10 p1; replace q0 := keepc hb10 q0; replace q1 := keepc hb10 q1; replace q2 := keepc hb10 q2; replace q3 := keepc hb10 q3; replace q4 := keepc hb10 q4; replace q5 := keepc hb10 q5; replace q6 := keepc hb10 q6; replace u0 := keepc hb10 u0; replace u1 := keepc hb10 u1; replace u2 := keepc hb10 u2; replace u3 := keepc hb10 u3; replace u4 := keepc hb10 u4; replace u5 := keepc hb10 u5; replace u6 := keepc hb10 u6
  clear hb10
  -- the answer is marked
  go_wp2_with fail
  refine (markWorld_any _ 1 _ tn tc _ _ _ _ _ _ _ _ _ _ _ _ _ _ _ _ _ _ _ hK5 htl htn2 (by omega)).mono ?_
  rintro e w11 ⟨rfl, hM, hg11⟩
  have hz11 := hg11.size
  have hS : ∀ k, (((Value.slice a5 tc.length c5).ownBlock = some k ∨ (Value.slice e5 tn f5).ownBlock = some k) ∨ (Value.slice i5 tn j5).ownBlock = some k) → w4.heap.size < k ∧ k < w5.heap.size := by
    intro k q
    rcases q with (q | q) | q
    · have := R5c k q; omega
    · have := R5p k q; omega
    · have := R5q k q; omega
  have hB11 : Below w.heap.size w w11 := hg11.below hB10 (fun k q => by have := hS k q; omega) (by omega)
  have hn0 : ∀ k, (k ≤ w4.heap.size ∨ w5.heap.size ≤ k) → ¬ (((Value.slice a5 tc.length c5).ownBlock = some k ∨ (Value.slice e5 tn f5).ownBlock = some k) ∨ (Value.slice i5 tn j5).ownBlock = some k) := fun k q q' => by have := hS k q'; omega
  replace hK3 := hg11.wp hK3 (fun k hk => hn0 k (Or.inl (by have := R3c k hk; omega))) (fun k hk => hn0 k (Or.inl (by have := R3p k hk; omega))) (fun k hk => hn0 k (Or.inl (by have := R3q k hk; omega)))
  have n1 := hn0 w.heap.size (by omega)
  have n2 := hn0 w3.heap.size (by omega)
  have n3 := hn0 w5.heap.size (by omega)
  replace p0 := hg11.cell n1 p0
  replace p1 := hg11.cell n1 p1
  replace q0 := hg11.cell n2 q0
  replace q1 := hg11.cell n2 q1
  replace q2 := hg11.cell n2 q2
  replace q3 := hg11.cell n2 q3
  replace q4 := hg11.cell n2 q4
  replace q5 := hg11.cell n2 q5
  replace q6 := hg11.cell n2 q6
  replace u0 := hg11.cell n3 u0
  replace u1 := hg11.cell n3 u1
  replace u2 := hg11.cell n3 u2
  replace u3 := hg11.cell n3 u3
  replace u4 := hg11.cell n3 u4
  replace u5 := hg11.cell n3 u5
  replace u6 := hg11.cell n3 u6
  clear hg11 n1 n2 n3 hK5 hn0 hS
  have m0 : ¬ ((1 : Int) + 2 * (tc.length : Int) + 2 * (tn : Int) + 4 * (tn : Int) < 0) := by omega
  have m1 : ((1 : Int) + 2 * (tc.length : Int) + 2 * (tn : Int) + 4 * (tn : Int) != (1 : Int) + 2 * (tc.length : Int) + 2 * (tn : Int) + 4 * (tn : Int)) = false := by simp
  go_wp2_with fail
  refine (heldWorld_any _ 1 _ tn tc _ _ _ _ _ _ _ _ _ _ _ _ _ hM htl htn2 (by omega)).mono ?_
  rintro e w12 ⟨rfl, hb12⟩
  have hz12 := hb12.size
  have hB12 : Below w.heap.size w w12 := bcall hB11 (by omega) hb12
  replace hK3 := hK3.below hb12
  replace hM := hM.below hb12
  replace p0 := keepc hb12 p0; replace p1 := keepc hb12 p1; replace q0 := keepc hb12 q0; replace q1 := keepc hb12 q1; replace q2 := keepc hb12 q2; replace q3 := keepc hb12 q3; replace q4 := keepc hb12 q4; replace q5 := keepc hb12 q5; replace q6 := keepc hb12 q6; replace u0 := keepc hb12 u0; replace u1 := keepc hb12 u1; replace u2 := keepc hb12 u2; replace u3 := keepc hb12 u3; replace u4 := keepc hb12 u4; replace u5 := keepc hb12 u5; replace u6 := keepc hb12 u6
  clear hb12
  -- another call
  go_wp2_with fail
  refine (toGrid_any _ _ _ cs _ (hC.below hB12) hm2).mono ?_
  rintro e w13 ⟨g13, rfl, hO13, hb13⟩
  have hz13 := hb13.size
  have hB13 : Below w.heap.size w w13 := bcall hB12 (by omega) hb13
  obtain ⟨a13, c13, e13, hC13⟩ := hO13.slice
  simp only [Value.slice.injEq] at e13
  obtain ⟨rfl, _, rfl⟩ := e13
  replace hK3 := hK3.below hb13
  replace hM := hM.below hb13
  replace p0 := keepc hb13 p0; replace p1 := keepc hb13 p1; replace q0 := keepc hb13 q0; replace q1 := keepc hb13 q1; replace q2 := keepc hb13 q2; replace q3 := keepc hb13 q3; replace q4 := keepc hb13 q4; replace q5 := keepc hb13 q5; replace q6 := keepc hb13 q6; replace u0 := keepc hb13 u0; replace u1 := keepc hb13 u1; replace u2 := keepc hb13 u2; replace u3 := keepc hb13 u3; replace u4 := keepc hb13 u4; replace u5 := keepc hb13 u5; replace u6 := keepc hb13 u6
  clear hb13 hO13
  have hE13 := hE'.out.below' hB13
  go_wp2_with fail
  refine (CI.out _ _ _ hC13 hE13).mono ?_
  rintro e w14 ⟨a9, b9, e9, g9, i9, k9, c9, d9, f9, h9, j9, l9, rfl, hK9, hb14⟩
  have hz14 := hb14.size
  have hB14 : Below w.heap.size w w14 := bcall hB13 (by omega) hb14
  replace hK3 := hK3.below hb14
  replace hM := hM.below hb14
  replace p0 := keepc hb14 p0; replace p1 := keepc hb14 p1; replace q0 := keepc hb14 q0; replace q1 := keepc hb14 q1; replace q2 := keepc hb14 q2; replace q3 := keepc hb14 q3; replace q4 := keepc hb14 q4; replace q5 := keepc hb14 q5; replace q6 := keepc hb14 q6; replace u0 := keepc hb14 u0; replace u1 := keepc hb14 u1; replace u2 := keepc hb14 u2; replace u3 := keepc hb14 u3; replace u4 := keepc hb14 u4; replace u5 := keepc hb14 u5; replace u6 := keepc hb14 u6
  clear hb14 hC13 hE13
  have hbV : Below w14.heap.size w14 (w14.alloc (.cells #[.int .i64 tw, .slice a9 tc.length c9, .slice b9 0 d9, .slice e9 tn f9, .slice g9 0 h9, .slice i9 tn j9, .slice k9 0 l9] 45)) := (by repeat (first | exact Below.refl _ _ | refine Below.alloc ?_ (by first | exact Nat.le_refl _ | (simp; done) | (simp; omega)) _ | refine Below.drew ?_ | refine Below.setCell ?_ (by first | exact Nat.le_refl _ | (simp; done) | (simp; omega)) _))
  have s1 : w.heap.size < w14.heap.size := by omega
  have s2 : w3.heap.size < w14.heap.size := by omega
  have s3x : w5.heap.size < w14.heap.size := by omega
  go_wp2_with fail
  refine (eqWorld_same _ _ _ tn tc _ _ _ _ _ _ _ _ _ _ _ _ _ _ _ _ _ _ _ _ _ _ _ _ _ _ _ _ _ _ _ (hK9.below hbV) (hK3.below hbV) htl htn2).mono ?_
  rintro e w15 ⟨rfl, hb15⟩
  have hb1415 : Below w14.heap.size w14 w15 := bcall hbV (by simp) hb15
  have hz15 := hb1415.size
  have hB15 : Below w.heap.size w w15 := bcall hB14 (by omega) hb1415
  replace hM := hM.below hb1415
  replace u0 := keepc hb1415 u0; replace u1 := keepc hb1415 u1; replace u2 := keepc hb1415 u2; replace u3 := keepc hb1415 u3; replace u4 := keepc hb1415 u4; replace u5 := keepc hb1415 u5; replace u6 := keepc hb1415 u6
  clear hb15 hbV hb1415 hK9 hK3 p0 p1 q0 q1 q2 q3 q4 q5 q6
  go_wp2_with fail
  refine (heldWorld_any _ 1 _ tn tc _ _ _ _ _ _ _ _ _ _ _ _ _ hM htl htn2 (by omega)).mono ?_
  rintro e w16 ⟨rfl, hb16⟩
  have hB16 : Below w.heap.size w w16 := bcall hB15 (by omega) hb16
  go_wp2
  go_ret
  exact ⟨rfl, hB16⟩

theorem et : Tryd.prog.globalNamed "errors.errorType" = some 0 := by kernel_rfl
theorem rt : (Tryd.prog.cutTypes.find? (·.1 == "internal/reflectlite.rtype")).map (·.2) = some 120 := by kernel_rfl
theorem oneRow : ((List.range 181).filter fun t => Tryd.prog.rowNamed t [101, 114, 114, 111, 114]) = [60] := by kernel_rfl
theorem tsize : Tryd.prog.types.size = 181 := by kernel_rfl
theorem err_of_laid {W : World} (h : laidMetH Tryd.prog Rows.fnExactWorldNewRow.laid W) : ErrV W := by
  have h' : laidMet Tryd.prog [] W ∧ handlesMet Tryd.prog Rows.fnExactWorldNewRow.laid W := h
  obtain ⟨name, u, ty, e1, e2, e3, e4, e5⟩ := h'.2 _ (List.mem_singleton.2 rfl)
  have en : name = [101, 114, 114, 111, 114] := (Option.some.inj e1).symm
  subst en
  obtain rfl := Option.some.inj (rt.symm.trans e2)
  have hm : ty ∈ (List.range 181).filter fun t => Tryd.prog.rowNamed t [101, 114, 114, 111, 114] := List.mem_filter.2 ⟨List.mem_range.2 (by rw [← tsize]; exact e3), e4⟩
  rw [oneRow] at hm
  obtain rfl := List.mem_singleton.1 hm
  have hh : typeHandle Tryd.prog 60 = .pointer (some ⟨1, 60, none⟩) := by kernel_rfl
  rw [hh] at e5
  unfold ErrV
  simpa using World.var?_cell et e5 0
theorem door_met (os : Os) (args : Array Value) : laidMetH Tryd.prog Rows.fnExactWorldNewRow.laid ((World.doorLaid Tryd.prog 24 os).forCall (fun _ _ => 0) ⟨#[], args, []⟩).memory :=
  laidMetH_of_parts (laidMet_nil _ _) (by kernel_rfl)
set_option maxRecDepth 100000 in
theorem lifted (os : Os) (started : os.Started) (H : Type) (enc : TypeId × Value → H) :
    ReturnsInHanded {} Tryd.checked os 4 .any (fun w args => (Rows.fnExactWorldNewSpec.pre enc Tryd.prog Tryd.f4 [] false w args ∧ laidMetH Tryd.prog Rows.fnExactWorldNewRow.laid w) ∧ sizedMet enc Tryd.prog Tryd.f4 (OpenSpec.ofChange Rows.fnExactWorldNewSpec) false w args) (Rows.fnExactWorldNewSpec.post enc Tryd.prog Tryd.f4 false true false false) := by
  refine returnsInHanded_of_change_and (C := Tryd.checked) (X := fun w _ => laidMetH Tryd.prog Rows.fnExactWorldNewRow.laid w) (fun _ _ _ hh h => h.of_heap hh) own started (by kernel_rfl) Tryd.func4
    (ChangeSpec.witness_shaped (enc := enc) (C := Tryd.checked) (os := os) (X := fun w _ => laidMetH Tryd.prog Rows.fnExactWorldNewRow.laid w) false (World.doorLaid Tryd.prog 24 os) #[.agg #[.int .i64 0, .slice none 0 0], .int .i64 0] 8 rfl (World.shaped_of_RefB (by kernel_rfl) (by kernel_rfl)) (by kernel_rfl) (by kernel_rfl) (by kernel_rfl) (door_met os _)) ?_
  intro W base args ds gs before hval0 hW _ _ hL _
  have hval : ∀ (j : Nat) t v, Tryd.f4.params[j]? = some t → args[j]? = some v → Value.okWide Tryd.prog W .any base t v := hval0
  have hW' := hW
  obtain ⟨p, q, hA0, hV, rfl, hfz, hnd⟩ := hW
  have hA : DataW.TrodAll enc Tryd.prog W 0 (fun _ => true) true Tryd.f4.params.toList args.toList ds p := hA0
  rw [Tryd.params4] at hA hval
  obtain ⟨v0, vs0, d0, ds0, p0, q0, hargs, rfl, rfl, h0, r0⟩ := trodAll_cons hA
  obtain ⟨v1, vs1, d1, ds1, p1, q1, rfl, rfl, rfl, h1, r1⟩ := trodAll_cons r0
  obtain ⟨rfl, rfl, rfl⟩ := trodAll_nil r1
  obtain rfl : args = #[v0, v1] := by cases args; simp_all
  obtain ⟨rfl, rfl⟩ := trodVars_none hV
  have k0 := h0
  have lt0 : ∀ x ∈ p0, x.block < W.heap.size := by obtain ⟨m, hm⟩ := k0; exact DataW.trod_lt m _ _ _ hm
  obtain ⟨wd0, a0, cap0, cs0, rfl, hC0, hm0⟩ := open_grid (hval 0 24 v0 rfl rfl) h0
  have k1 := h1
  have lt1 : ∀ x ∈ p1, x.block < W.heap.size := by obtain ⟨m, hm⟩ := k1; exact DataW.trod_lt m _ _ _ hm
  obtain ⟨x1, rfl, _, _, wx1⟩ := open_int Tryd.underlying3 (hval 1 3 v1 rfl rfl) h1
  clear hA0 hval0
  refine (walk wd0 a0 cap0 cs0 x1 W hC0 hm0 wx1 (err_of_laid hL)).mono fun e W' ⟨he, bel⟩ => ?_
  subst he
  exact ⟨_, rfl, _, _, _, [], _, [], hW', trodAll_mk1 (shut_bool Tryd.underlying4 _), (trodAll_cons_mk (Below.trod laidOut (by kernel_rfl) (of_decide_eq_true (by kernel_rfl)) k0 bel lt0) (trodAll_cons_mk (Below.trod laidOut (by kernel_rfl) (of_decide_eq_true (by kernel_rfl)) k1 bel lt1) trodAll_mk0)), rfl, bel.frame _, fun h => by cases h⟩

theorem row : Rows.fnExactWorldNewRow.holds Tryd.pinned (OpenSpec.ofChange Rows.fnExactWorldNewSpec) :=
  OpenClaim.holds_of_wide 4 Tryd.f4 rfl rfl rfl rfl rfl rfl rfl ⟨rfl, rfl, rfl, rfl, rfl⟩ rfl rfl rfl rfl rfl (by kernel_rfl) Tryd.func4 (by kernel_rfl)
    (of_decide_eq_true (by kernel_rfl)) (by unfold Func.isWrapper; first | (rw [if_pos (by decide +kernel)]; kernel_rfl) | (rw [if_neg (by decide +kernel)]; exact ⟨rfl, rfl⟩))
    (fun os started H enc _ => lifted os started H enc)
theorem over : Claim7.holds Tryd.pinned (.plain (OpenSpec.ofChange Rows.fnExactWorldNewSpec)) Rows.fnExactWorldNewCard :=
  Claim7.holds_tied_plain_at .later [] [.handle] true _ true
    row (fun _ h => by cases h) (by kernel_rfl) (fun _ h => by cases h) fnExactWorldNew_row_tie rfl ⟨rfl, rfl⟩ (by kernel_rfl) rfl
    (fun f fn hf hfn => by
      obtain rfl : f = 4 := Option.some.inj ((show Tryd.prog.funcNamed "loop.example/lucarne/laws.FnExactWorldNew" = some 4 by kernel_rfl).symm.trans hf) |>.symm
      obtain rfl : fn = Tryd.f4 := (Option.some.inj (Tryd.func4.symm.trans hfn)).symm
      exact ⟨by kernel_rfl, fun j t ht => by
        rw [Tryd.params4] at ht
        have hm : t ∈ [24, 3] := by simpa using Array.mem_of_getElem? ht
        have hall : ([24, 3].all fun u => !Tryd.prog.wantsStandIn u) = true := by kernel_rfl
        exact (show Tryd.prog.wantsStandIn t = false by simpa using List.all_eq_true.1 hall t hm)⟩)
    (by kernel_rfl)

end Go.Proofs.YtjmdlppakinboaaDoor.ExWorldNew

namespace Go.Proofs.YtjmdlppakinboaaDoor
/-- The statement. -/
theorem exWorldNew : Rows.FnExactWorldNewCardSaid := ExWorldNew.over
#print axioms exWorldNew
end Go.Proofs.YtjmdlppakinboaaDoor
