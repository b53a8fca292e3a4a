/-
  impl.KeepNew: a keeper at its beginning, in new memory, or nothing.
-/
import Derived.Test.YtjmdlppakinboaaDoorKh
import Derived.Deep.RegionHeld3
namespace Go.Proofs.YtjmdlppakinboaaDoor
open Go.RowKit
set_option linter.unusedVariables false
set_option linter.unusedSimpArgs false

set_option maxHeartbeats 2000000 in
theorem newKeeper_yes (wd : Int) (a : Option Addr) (cap : Nat) (cs : List (Int × Int)) (n : Nat) (w : World) (hC : CellsAt w a cs) (hm : cs.length ≤ 1048576) (hl : 0 < cs.length) (hyes : startOk wd cs n = true) (hn : n ≤ 3) :
    Calls Tryd.prog 25 #[.agg #[.int .i64 wd, .slice a cs.length cap], .int .i64 (n : Int)] w fun e w' => (∃ v g gp, e = .returned (.tuple #[v, .nilIface]) ∧ Kp w' w.heap.size v wd cs n (fun _ => false) (fun _ => 0) (.slice (some ⟨g, 0, none⟩) cs.length cs.length) (.slice (some ⟨gp, 0, none⟩) n n) none none 0 0) ∧ Below w.heap.size w w' := by
  have MK := make_parts n (by omega)
  go_enter Tryd.func25, Tryd.ntmps25
  go_wp2_with fail
  refine (checkStart_any wd a cap cs n _ (hC.below (by repeat (first | exact Below.refl _ _ | refine Below.alloc ?_ (by first | exact Nat.le_refl _ | (simp; done) | (simp; omega)) _ | refine Below.drew ?_ | refine Below.setCell ?_ (by first | exact Nat.le_refl _ | (simp; done) | (simp; omega)) _))) hm).mono ?_
  rintro e w1 ⟨⟨v, rfl, h⟩, hb1⟩
  rw [hyes] at h
  obtain rfl : v = .nilIface := by
    rcases h with ⟨_, q⟩ | ⟨q, _⟩
    · exact q
    · cases q
  have hz1 := hb1.size
  simp at hz1
  have p0 : w1.cell? ⟨w.heap.size, 0, none⟩ = some (.int .i64 wd) := keepc hb1 (by simp [go_sem])
  have p1 : w1.cell? ⟨w.heap.size, 1, none⟩ = some (.slice a cs.length cap) := keepc hb1 (by simp [go_sem])
  have q0 : w1.cell? ⟨w.heap.size + 1, 0, none⟩ = some (.int .i64 0) := keepc hb1 (by simp [go_sem])
  have q1 : w1.cell? ⟨w.heap.size + 1, 1, none⟩ = some (.slice none 0 0) := keepc hb1 (by simp [go_sem])
  have q2 : w1.cell? ⟨w.heap.size + 1, 2, none⟩ = some (.slice none 0 0) := keepc hb1 (by simp [go_sem])
  have q3 : w1.cell? ⟨w.heap.size + 1, 3, none⟩ = some (.slice none 0 0) := keepc hb1 (by simp [go_sem])
  have q4 : w1.cell? ⟨w.heap.size + 1, 4, none⟩ = some (.slice none 0 0) := keepc hb1 (by simp [go_sem])
  have f0 : w1.frozen? ⟨w.heap.size + 1, 0, none⟩ = false := keepf hb1 (v := .int .i64 0) (by simp [go_sem]) (by simp [go_sem])
  have f1 : w1.frozen? ⟨w.heap.size + 1, 1, none⟩ = false := keepf hb1 (v := .slice none 0 0) (by simp [go_sem]) (by simp [go_sem])
  have f2 : w1.frozen? ⟨w.heap.size + 1, 2, none⟩ = false := keepf hb1 (v := .slice none 0 0) (by simp [go_sem]) (by simp [go_sem])
  have f3 : w1.frozen? ⟨w.heap.size + 1, 3, none⟩ = false := keepf hb1 (v := .slice none 0 0) (by simp [go_sem]) (by simp [go_sem])
  have f4 : w1.frozen? ⟨w.heap.size + 1, 4, none⟩ = false := keepf hb1 (v := .slice none 0 0) (by simp [go_sem]) (by simp [go_sem])
  have hB1 : Below w.heap.size w w1 := bcall (by repeat (first | exact Below.refl _ _ | refine Below.alloc ?_ (by first | exact Nat.le_refl _ | (simp; done) | (simp; omega)) _ | refine Below.drew ?_ | refine Below.setCell ?_ (by first | exact Nat.le_refl _ | (simp; done) | (simp; omega)) _)) (by simp; omega) hb1
  have s0 : w.heap.size < w1.heap.size := by omega
  have s1 : w.heap.size + 1 < w1.heap.size := by omega
  clear hb1 h
  go_wp2_with fail
  go_region_with (first | (go_at_call 48; refine (copyGrid_any wd a cap cs _ (hC.below (by repeat (first | exact hB1 | refine Below.alloc ?_ (by first | omega | exact Nat.le_refl _ | (simp; done) | (simp; omega)) _ | refine Below.drew ?_))) hm hl).mono ?_; rintro e w2 ⟨g, rfl, hO2, hb2'⟩; have hb2 : Below w1.heap.size w1 w2 := bcall (by repeat (first | exact Below.refl _ _ | refine Below.alloc ?_ (by first | exact Nat.le_refl _ | (simp; done) | (simp; omega)) _ | refine Below.drew ?_ | refine Below.setCell ?_ (by first | exact Nat.le_refl _ | (simp; done) | (simp; omega)) _)) (by first | exact Nat.le_refl _ | (simp; done) | (simp; omega)) hb2'; have hz2 := hb2.size; have s2 : w.heap.size + 1 < w2.heap.size := (by omega); have P0 := keepc hb2 p0; have P1 := keepc hb2 p1; have Q0 := keepc hb2 q0; have Q1 := keepc hb2 q1; have Q2 := keepc hb2 q2; have Q3 := keepc hb2 q3; have Q4 := keepc hb2 q4; have G0 := keepf hb2 q0 f0; have G1 := keepf hb2 q1 f1; have G2 := keepf hb2 q2 f2; have G3 := keepf hb2 q3 f3; have G4 := keepf hb2 q4 f4) | fail)
  · have hz2' : w.heap.size + 1 < w2.heap.size + 1 := by omega
    go_wp2
    refine bodyPost_ret (v := (.tuple #[.agg #[.int .i64 wd, .slice (some ⟨g, 0, none⟩) cs.length cs.length, .slice none 0 0, .slice (some ⟨w2.heap.size, 0, none⟩) n n, .slice none 0 0], .nilIface])) (by simp [results, Tryd.results25, go_sem, Q0, Q1, Q2, Q3, Q4, s2, hz2']) rfl ⟨⟨_, g, w2.heap.size, rfl, ?_⟩, ?_⟩
    · have hR := hO2.range g rfl
      simp at hR
      have hG := grown_five w2 (w.heap.size + 1) (.int .i64 wd) (.slice (some ⟨g, 0, none⟩) cs.length cs.length) (.slice none 0 0) (.slice (some ⟨w2.heap.size, 0, none⟩) n n) (.slice none 0 0)
      have hP := parts_made (((((w2.setCell ⟨w.heap.size + 1, 0, none⟩ (.int .i64 wd)).setCell ⟨w.heap.size + 1, 1, none⟩ (.slice (some ⟨g, 0, none⟩) cs.length cs.length)).setCell ⟨w.heap.size + 1, 2, none⟩ (.slice none 0 0)).setCell ⟨w.heap.size + 1, 3, none⟩ (.slice (some ⟨w2.heap.size, 0, none⟩) n n)).setCell ⟨w.heap.size + 1, 4, none⟩ (.slice none 0 0)) w.heap.size n (by simp; omega) (by omega)
      simp only [World.size_setCell] at hP
      refine ⟨rfl, ?_, hP, ?_⟩
      · exact Own.alloc ((hO2.mono (by simp; omega)).keptg hG (fun k hk q => by simp [Value.ownBlock] at hk q; omega)) _
      · intro k hk
        simp [Value.ownBlock] at hk ⊢
        omega
    · have hB2 : Below w.heap.size w w2 := bcall hB1 (by omega) hb2
      exact (hB2.grown (grown_five _ _ _ _ _ _ _) (by omega) (fun k hk => by simp at hk; omega)).alloc (by simp; omega) _
  all_goals
    have hz2' : w1.heap.size + 1 ≤ w2.heap.size := by have := hb2'.size; simpa using this
    go_wp2
    refine bodyPost_ret (v := (.tuple #[.agg #[.int .i64 wd, .slice (some ⟨g, 0, none⟩) cs.length cs.length, .slice none 0 0, .slice (some ⟨w1.heap.size, 0, none⟩) n n, .slice none 0 0], .nilIface])) (by simp [results, Tryd.results25, go_sem, Q0, Q1, Q2, Q3, Q4, s2, hz2']) rfl ⟨⟨_, g, w1.heap.size, rfl, ?_⟩, ?_⟩
    · have hR := hO2.range g rfl
      refine Kp.kept (row := some (w.heap.size + 1)) ⟨rfl, (hO2.mono (by simp; omega)), (parts_made w1 w.heap.size n (by omega) (by omega)).below (by first | exact bdrew hb2' | exact bdrewN hb2' | exact hb2'), ?_⟩ (grown_five _ _ _ _ _ _ _) ?_ ?_
      · intro k hk
        simp [Value.ownBlock] at hk ⊢
        simp at hR
        omega
      · intro k hk
        simp [Value.ownBlock] at hk ⊢
        simp at hR
        omega
      · intro k hk
        simp [Value.ownBlock] at hk ⊢
        omega
    · have hB2 : Below w.heap.size w w2 := bcall hB1 (by omega) hb2
      exact hB2.grown (grown_five _ _ _ _ _ _ _) (by omega) (fun k hk => by simp at hk; omega)
end Go.Proofs.YtjmdlppakinboaaDoor
