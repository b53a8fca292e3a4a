/-
  impl.KeepNew: a keeper at its beginning, in new memory, or nothing.
-/
import Derived.Test.YtjmdlppakinboaaDoorKi
namespace Go.Proofs.YtjmdlppakinboaaDoor
open Go.RowKit
set_option linter.unusedVariables false
set_option linter.unusedSimpArgs false

theorem zero_kp (w : World) (B : Nat) : Kp w B (.agg #[.int .i64 0, .slice none 0 0, .slice none 0 0, .slice none 0 0, .slice none 0 0]) 0 [] 0 (fun _ => false) (fun _ => 0) (.slice none 0 0) (.slice none 0 0) none none 0 0 :=
  ⟨rfl, World.ownsRow_nil _ _ _ _, PartsAt.nil _ _ _ _, fun k hk => by simp [Value.ownBlock] at hk⟩

set_option maxHeartbeats 2000000 in
theorem implKeepNew_no (wd : Int) (a : Option Addr) (cap : Nat) (cs : List (Int × Int)) (many : Int) (w : World) (hC : CellsAt w a cs) (hm : cs.length ≤ 1048576) (hno : startOk wd cs many = false) (hE : ErrV w) :
    Calls Tryd.prog 8 #[.agg #[.int .i64 wd, .slice a cs.length cap], .int .i64 many] w fun e w' => e = .returned (.tuple #[.agg #[.int .i64 0, .slice none 0 0, .slice none 0 0, .slice none 0 0, .slice none 0 0], .bool false]) ∧ Below w.heap.size w w' := by
  go_enter Tryd.func8, Tryd.ntmps8
  go_wp2_with fail
  refine (newKeeper_no wd a cap cs many _ (hC.below (by repeat (first | exact Below.refl _ _ | refine Below.alloc ?_ (by first | exact Nat.le_refl _ | (simp; done) | (simp; omega)) _ | refine Below.drew ?_ | refine Below.setCell ?_ (by first | exact Nat.le_refl _ | (simp; done) | (simp; omega)) _))) hm hno).mono ?_
  rintro e w1 ⟨⟨s, rfl⟩, hb1⟩
  have hz1 := hb1.size
  simp at hz1
  have q0 : w1.cell? ⟨w.heap.size + 1, 0, none⟩ = some (.int .i64 0) := keepc hb1 (by simp [go_sem])
  have q1 : w1.cell? ⟨w.heap.size + 1, 1, none⟩ = some (.slice none 0 0) := keepc hb1 (by simp [go_sem])
  have q2 : w1.cell? ⟨w.heap.size + 1, 2, none⟩ = some (.slice none 0 0) := keepc hb1 (by simp [go_sem])
  have q3 : w1.cell? ⟨w.heap.size + 1, 3, none⟩ = some (.slice none 0 0) := keepc hb1 (by simp [go_sem])
  have q4 : w1.cell? ⟨w.heap.size + 1, 4, none⟩ = some (.slice none 0 0) := keepc hb1 (by simp [go_sem])
  have f0 : w1.frozen? ⟨w.heap.size + 1, 0, none⟩ = false := keepf hb1 (v := .int .i64 0) (by simp [go_sem]) (by simp [go_sem])
  have f1 : w1.frozen? ⟨w.heap.size + 1, 1, none⟩ = false := keepf hb1 (v := .slice none 0 0) (by simp [go_sem]) (by simp [go_sem])
  have f2 : w1.frozen? ⟨w.heap.size + 1, 2, none⟩ = false := keepf hb1 (v := .slice none 0 0) (by simp [go_sem]) (by simp [go_sem])
  have f3 : w1.frozen? ⟨w.heap.size + 1, 3, none⟩ = false := keepf hb1 (v := .slice none 0 0) (by simp [go_sem]) (by simp [go_sem])
  have f4 : w1.frozen? ⟨w.heap.size + 1, 4, none⟩ = false := keepf hb1 (v := .slice none 0 0) (by simp [go_sem]) (by simp [go_sem])
  have hB1 : Below w.heap.size w w1 := bcall (by repeat (first | exact Below.refl _ _ | refine Below.alloc ?_ (by first | exact Nat.le_refl _ | (simp; done) | (simp; omega)) _ | refine Below.drew ?_ | refine Below.setCell ?_ (by first | exact Nat.le_refl _ | (simp; done) | (simp; omega)) _)) (by simp; omega) hb1
  have hE1 := hE.below' hB1
  clear hb1 hE
  go_wp2_with fail
  refine (canBe_hit 0 none none none none 0 0 0 0 0 0 0 0 s _ hE1).mono ?_
  rintro e w2 ⟨rfl, hb2⟩
  replace f0 := keepf hb2 q0 f0; replace f1 := keepf hb2 q1 f1; replace f2 := keepf hb2 q2 f2; replace f3 := keepf hb2 q3 f3; replace f4 := keepf hb2 q4 f4; replace q0 := keepc hb2 q0; replace q1 := keepc hb2 q1; replace q2 := keepc hb2 q2; replace q3 := keepc hb2 q3; replace q4 := keepc hb2 q4
  have hz2 := hb2.size
  have hB2 := bcall hB1 hB1.size hb2
  clear hb2 hB1
  go_wp2
  refine bodyPost_ret (v := .tuple #[.agg #[.int .i64 0, .slice none 0 0, .slice none 0 0, .slice none 0 0, .slice none 0 0], .bool false]) (by simp [results, Tryd.results8, go_sem, q0, q1, q2, q3, q4]) rfl ⟨rfl, ?_⟩
  exact hB2.grown (grown_five _ _ _ _ _ _ _) (by omega) (fun k hk => by simp at hk; omega)

set_option maxHeartbeats 2000000 in
theorem implKeepNew_yes (wd : Int) (a : Option Addr) (cap : Nat) (cs : List (Int × Int)) (n : Nat) (w : World) (hC : CellsAt w a cs) (hm : cs.length ≤ 1048576) (hl : 0 < cs.length) (hyes : startOk wd cs n = true) (hn : n ≤ 3) :
    Calls Tryd.prog 8 #[.agg #[.int .i64 wd, .slice a cs.length cap], .int .i64 (n : Int)] w fun e w' => (∃ g gp, e = .returned (.tuple #[.agg #[.int .i64 wd, .slice (some ⟨g, 0, none⟩) cs.length cs.length, .slice none 0 0, .slice (some ⟨gp, 0, none⟩) n n, .slice none 0 0], .bool true]) ∧ Kp w' w.heap.size (.agg #[.int .i64 wd, .slice (some ⟨g, 0, none⟩) cs.length cs.length, .slice none 0 0, .slice (some ⟨gp, 0, none⟩) n n, .slice none 0 0]) wd cs n (fun _ => false) (fun _ => 0) (.slice (some ⟨g, 0, none⟩) cs.length cs.length) (.slice (some ⟨gp, 0, none⟩) n n) none none 0 0) ∧ Below w.heap.size w w' := by
  go_enter Tryd.func8, Tryd.ntmps8
  go_wp2_with fail
  refine (newKeeper_yes wd a cap cs n _ (hC.below (by repeat (first | exact Below.refl _ _ | refine Below.alloc ?_ (by first | exact Nat.le_refl _ | (simp; done) | (simp; omega)) _ | refine Below.drew ?_ | refine Below.setCell ?_ (by first | exact Nat.le_refl _ | (simp; done) | (simp; omega)) _))) hm hl hyes hn).mono ?_
  rintro e w1 ⟨⟨v, g, gp, rfl, hK⟩, hb1⟩
  have hform := hK.form
  subst hform
  have hz1 := hb1.size
  simp at hz1
  have hg := hK.own.range g rfl
  have hgp : w.heap.size + 1 < gp := by
    obtain ⟨F, hF, _⟩ := hK.parts
    have := hF.range gp rfl
    simp at this
    omega
  simp at hg
  have q0 : w1.cell? ⟨w.heap.size + 1, 0, none⟩ = some (.int .i64 0) := keepc hb1 (by simp [go_sem])
  have q1 : w1.cell? ⟨w.heap.size + 1, 1, none⟩ = some (.slice none 0 0) := keepc hb1 (by simp [go_sem])
  have q2 : w1.cell? ⟨w.heap.size + 1, 2, none⟩ = some (.slice none 0 0) := keepc hb1 (by simp [go_sem])
  have q3 : w1.cell? ⟨w.heap.size + 1, 3, none⟩ = some (.slice none 0 0) := keepc hb1 (by simp [go_sem])
  have q4 : w1.cell? ⟨w.heap.size + 1, 4, none⟩ = some (.slice none 0 0) := keepc hb1 (by simp [go_sem])
  have f0 : w1.frozen? ⟨w.heap.size + 1, 0, none⟩ = false := keepf hb1 (v := .int .i64 0) (by simp [go_sem]) (by simp [go_sem])
  have f1 : w1.frozen? ⟨w.heap.size + 1, 1, none⟩ = false := keepf hb1 (v := .slice none 0 0) (by simp [go_sem]) (by simp [go_sem])
  have f2 : w1.frozen? ⟨w.heap.size + 1, 2, none⟩ = false := keepf hb1 (v := .slice none 0 0) (by simp [go_sem]) (by simp [go_sem])
  have f3 : w1.frozen? ⟨w.heap.size + 1, 3, none⟩ = false := keepf hb1 (v := .slice none 0 0) (by simp [go_sem]) (by simp [go_sem])
  have f4 : w1.frozen? ⟨w.heap.size + 1, 4, none⟩ = false := keepf hb1 (v := .slice none 0 0) (by simp [go_sem]) (by simp [go_sem])
  have hB1 : Below w.heap.size w w1 := bcall (by repeat (first | exact Below.refl _ _ | refine Below.alloc ?_ (by first | exact Nat.le_refl _ | (simp; done) | (simp; omega)) _ | refine Below.drew ?_ | refine Below.setCell ?_ (by first | exact Nat.le_refl _ | (simp; done) | (simp; omega)) _)) (by simp; omega) hb1
  clear hb1
  go_wp2_with fail
  refine (canBe_nil wd _ _ _ _ _ _ _ _ _ _ _ _ _).mono ?_
  rintro e w2 ⟨rfl, hb2⟩
  replace f0 := keepf hb2 q0 f0; replace f1 := keepf hb2 q1 f1; replace f2 := keepf hb2 q2 f2; replace f3 := keepf hb2 q3 f3; replace f4 := keepf hb2 q4 f4; replace q0 := keepc hb2 q0; replace q1 := keepc hb2 q1; replace q2 := keepc hb2 q2; replace q3 := keepc hb2 q3; replace q4 := keepc hb2 q4
  have hz2 := hb2.size
  have hB2 := bcall hB1 hB1.size hb2
  replace hK := hK.below hb2
  clear hb2 hB1
  go_wp2
  refine bodyPost_ret (v := .tuple #[.agg #[.int .i64 wd, .slice (some ⟨g, 0, none⟩) cs.length cs.length, .slice none 0 0, .slice (some ⟨gp, 0, none⟩) n n, .slice none 0 0], .bool true]) (by simp [results, Tryd.results8, go_sem, q0, q1, q2, q3, q4]) rfl ⟨⟨g, gp, rfl, ?_⟩, ?_⟩
  · have hK2 := hK.kept (grown_five w2 (w.heap.size + 1) (.int .i64 wd) (.slice (some ⟨g, 0, none⟩) cs.length cs.length) (.slice none 0 0) (.slice (some ⟨gp, 0, none⟩) n n) (.slice none 0 0)) (fun k hk q => by simp [Value.ownBlock] at hk q; omega) (fun k hk q => by simp [Value.ownBlock] at hk q; omega)
    obtain ⟨F, hF, hF2⟩ := hK2.parts
    refine ⟨rfl, hK2.own.mono (by simp; omega), ⟨F, ?_, hF2⟩, hK2.apart⟩
    rcases hF with ⟨h1, h2⟩
    refine ⟨h1, ?_⟩
    rcases h2 with h2 | ⟨g', cap', cur, hv, hg', r⟩
    · exact Or.inl h2
    · exact Or.inr ⟨g', cap', cur, hv, by simp at hg'; omega, r⟩
  · exact hB2.grown (grown_five _ _ _ _ _ _ _) (by omega) (fun k hk => by simp at hk; omega)
end Go.Proofs.YtjmdlppakinboaaDoor
