/-
  DrawGridRead draws a text of at most some hundred bytes.
-/
import Derived.Test.YteibklaabnnfbaaSf
import Derived.Test.YteibklaabnnfbaaFb
import Derived.Laws.Concat
import Derived.Deep.RegionHeld3
namespace Go.Proofs.Yteibklaabnnfbaa
open Go.RowKit
set_option linter.unusedVariables false
attribute [local go_sem ↓] Go.wp_at_zero Go.wp_at_succ

/-- Strings that lie in memory, each of at most six bytes. -/
def StrsAt (w : World) (b n : Nat) : Prop := ∀ i, i < n → ∃ S : ByteArray, S.size ≤ 6 ∧ w.cell? ⟨b, i, none⟩ = some (.string S)
theorem strs_new (w : World) (l : List ByteArray) (h : ∀ S ∈ l, S.size ≤ 6) (t : TypeId) : StrsAt (w.alloc (.cells (l.map Value.string).toArray t)) w.heap.size l.length := by
  intro i hi
  refine ⟨l[i], h _ (List.getElem_mem hi), ?_⟩
  rw [World.cell?_alloc_at _ _ _ _ rfl]
  simp [hi]

set_option maxHeartbeats 400000 in
theorem of_any (w : World) (rb L P b n cap : Nat) (h : RdQ w rb L P) (hp : P ≤ 999000) (hn : 1 ≤ n ∧ n ≤ 100) (hS : StrsAt w b n) (hb : b ≠ rb) :
    Calls Try.prog 20 #[.pointer (some ⟨rb, 0, none⟩), .slice (some ⟨b, 0, none⟩) n cap] w fun e w' => ∃ S : ByteArray, e = .returned (.string S) ∧ S.size ≤ 6 ∧ w.grownBy w' (some rb) := by
  go_enter Try.func20, Try.ntmps20
  go_wp2_with fail
  refine (pickQ (n : Int) _ rb L P h (by omega) (by omega)).mono ?_
  rintro e w1 ⟨v, rfl, v0, v1, hr1, hg1⟩
  obtain ⟨k, rfl⟩ := Int.eq_ofNat_of_zero_le v0
  obtain ⟨S, hS1, hc⟩ := hS k (by omega)
  have hc1 := gcell hg1 hb hc
  have hk : (k : Int) < (n : Int) := v1
  go_wp2
  go_ret
  exact ⟨S, rfl, hS1, hg1⟩
theorem strs6 (w : World) : StrsAt (w.alloc (.cells #[.string ⟨#[48]⟩, .string ⟨#[32]⟩, .string ⟨#[10]⟩, .string ⟨#[46]⟩, .string ⟨#[35]⟩, .string ⟨#[113]⟩] 9)) w.heap.size 6 := strs_new w [⟨#[48]⟩, ⟨#[32]⟩, ⟨#[10]⟩, ⟨#[46]⟩, ⟨#[35]⟩, ⟨#[113]⟩] (by decide) 9
theorem strs4 (w : World) : StrsAt (w.alloc (.cells #[.string ⟨#[10]⟩, .string ⟨#[46, 10]⟩, .string ⟨#[46, 46, 46, 46, 46, 10]⟩, .string ⟨#[46]⟩] 9)) w.heap.size 4 := strs_new w [⟨#[10]⟩, ⟨#[46, 10]⟩, ⟨#[46, 46, 46, 46, 46, 10]⟩, ⟨#[46]⟩] (by decide) 9
theorem below_of {w w1 w2 : World} {rb : Nat} (h : Below w.heap.size w w1) (hg : w1.grownBy w2 (some rb)) (hr : w.heap.size ≤ rb) : Below w.heap.size w w2 :=
  ⟨hg.os.trans h.os, hg.tape.trans h.tape, hg.output.trans h.output, Nat.le_trans h.size hg.size, fun k hk => (hg.block k (by have := h.size; omega) (by simp; omega)).trans (h.block k hk)⟩

set_option maxHeartbeats 1000000 in
theorem drawGridRead_any (a : Option Addr) (n cap : Nat) (f : Nat → Int) (w : World) (h : BytesAt w a n f) (hn : n ≤ 1048576) (hcap : n ≤ cap) (hc2 : cap ≤ 9223372036854775807) :
    Calls Try.prog 6 #[.slice a n cap] w fun e w' => ∃ S : ByteArray, e = .returned (.string S) ∧ S.size ≤ 1000 ∧ Below w.heap.size w w' := by
  go_enter Try.func6, Try.ntmps6
  go_wp2_with fail
  refine (l6Open_any _ n _ f _ h hn hcap hc2).mono ?_
  rintro e w1 ⟨rfl, hr1, hb1⟩
  have hz1 : w.heap.size + 1 ≤ w1.heap.size := by have := hr1.lt; omega
  go_wp2_with fail
  refine (l71Grid_any _ w.heap.size (w.heap.size + 1) 0 hr1 (by omega) (by omega)).mono ?_
  rintro e w2 ⟨W, g, c, xs, rfl, hok, hO2, hr2, hg2⟩
  have hB2 := below_of hb1 hg2 (Nat.le_refl _)
  have hz2 := hg2.size
  obtain ⟨tx, hx⟩ : ∃ tx, textG (W : Int) xs = tx := ⟨_, rfl⟩
  have hl := okG_lenD _ _ hok
  obtain ⟨N, hN⟩ : ∃ N, tx.length = N := ⟨_, rfl⟩
  have hN2 : N ≤ 50 := by
    rw [← hN, ← hx]
    unfold textG
    split <;> first | exact Nat.le_trans (textN_len _ _ _) (by omega) | (simp; done)
  have hsz : (str tx).size = N := by rw [str_size, hN]
  have HX : Hid (textG (W : Int) xs = tx) := hx
  clear hx hN hok
  go_wp2_with fail
  refine (text_spec HX.out _ _ _ (own_cellsD hO2) (by omega)).mono ?_
  rintro e w3 ⟨rfl, hb3⟩
  have hz3 := hb3.size
  have hB3 := bcall hB2 (by omega) hb3
  have hr3 := hr2.below (hb3.mono (by omega))
  clear hO2 hb3 hB2 hr2 hg2 hr1
  have wN : IntKind.i64.wrap ((N : Int) + 1) = (N : Int) + 1 := IntWalk.i64_in _ (by omega)
  go_wp2_with fail
  refine (pickQ ((N : Int) + 1) _ w.heap.size (w.heap.size + 1) 60 hr3 (by omega) (by omega)).mono ?_
  rintro e w4 ⟨p, rfl, p0, p1, hr4, hg4⟩
  have hB4 := below_of hB3 hg4 (Nat.le_refl _)
  have hz4 := hg4.size
  go_wp2_with fail
  refine (pickQ 8 _ w.heap.size (w.heap.size + 1) 61 hr4 (by omega) (by omega)).mono ?_
  rintro e w5 ⟨v, rfl, v0, v1, hr5, hg5⟩
  have hB5 := below_of hB4 hg5 (Nat.le_refl _)
  have hz5 := hg5.size
  clear hB3 hB4 hg4 hg5 hr3 hr4
  obtain ⟨A, hA⟩ : ∃ A, (str tx).extract 0 p.toNat = A := ⟨_, rfl⟩
  obtain ⟨B, hB⟩ : ∃ B, (str tx).extract p.toNat N = B := ⟨_, rfl⟩
  have hAs : A.size ≤ 50 := by rw [← hA, ByteArray.size_extract]; omega
  have hBs : B.size ≤ 50 := by rw [← hB, ByteArray.size_extract]; omega
  have sl1 : ∀ w : World, Sem.run Try.prog (Instr.slice 9 (.string (str tx)) none (some (.int .i64 p)) none) w = .ok (.string A) w := fun w => by rw [← hA]; exact run_slice_string_h w 9 (str tx) Try.underlying9 .i64 p p0 (by rw [hsz]; omega)
  have sl2 : ∀ w : World, Sem.run Try.prog (Instr.slice 9 (.string (str tx)) (some (.int .i64 p)) none none) w = .ok (.string B) w := fun w => by rw [← hB, ← hsz]; exact run_slice_string_l w 9 (str tx) Try.underlying9 .i64 p p0 (by rw [hsz]; omega)
  clear hA hB
  by_cases k0 : v = 0
  · subst k0
    go_wp2
    go_ret
    exact ⟨A, rfl, by omega, hB5⟩
  by_cases k1 : v = 1
  · subst k1
    have hb6 : Below w5.heap.size w5 (w5.alloc (.cells #[.string ⟨#[48]⟩, .string ⟨#[32]⟩, .string ⟨#[10]⟩, .string ⟨#[46]⟩, .string ⟨#[35]⟩, .string ⟨#[113]⟩] 9)) := (by repeat (first | exact Below.refl _ _ | refine Below.alloc ?_ (by first | exact Nat.le_refl _ | (simp; done) | (simp; omega)) _ | refine Below.drew ?_ | refine Below.setCell ?_ (by first | exact Nat.le_refl _ | (simp; done) | (simp; omega)) _))
    go_wp2
    go_region_with
      (first
        | (go_at_call 20; refine (of_any _ w.heap.size (w.heap.size + 1) 62 w5.heap.size 6 6 (by first | exact hr5.below (hb6.mono (by omega)) | exact (hr5.below (hb6.mono (by omega))).below (Below.refl _ _).drew) (by omega) (by omega) (by first | exact strs6 w5 | exact fun i hi => strs6 w5 i hi) (by omega)).mono ?_; rintro e w6 ⟨S1, rfl, hS1, hg6'⟩; have hB6 : Below w.heap.size w w6 := below_of (bcall hB5 hB5.size hb6) (by first | exact hg6' | exact gdrew hg6') (Nat.le_refl _); have ha1 : ∀ w : World, Sem.run Try.prog (Op.stringOp .add A S1) w = .ok (.string (A ++ S1)) w := (fun w => run_string_add w A S1 (by omega) (by omega)); have ha2 : ∀ w : World, Sem.run Try.prog (Op.stringOp .add (A ++ S1) B) w = .ok (.string (A ++ S1 ++ B)) w := (fun w => run_string_add w (A ++ S1) B (by rw [ByteArray.size_append]; omega) (by omega))))
    all_goals
      go_wp2
      go_ret
      exact ⟨_, rfl, by rw [ByteArray.size_append, ByteArray.size_append]; omega, by first | exact hB6 | exact hB6.drew⟩
  by_cases k2 : v = 2
  · subst k2
    have hb6 : Below w5.heap.size w5 (w5.alloc (.cells #[.string ⟨#[10]⟩, .string ⟨#[46, 10]⟩, .string ⟨#[46, 46, 46, 46, 46, 10]⟩, .string ⟨#[46]⟩] 9)) := (by repeat (first | exact Below.refl _ _ | refine Below.alloc ?_ (by first | exact Nat.le_refl _ | (simp; done) | (simp; omega)) _ | refine Below.drew ?_ | refine Below.setCell ?_ (by first | exact Nat.le_refl _ | (simp; done) | (simp; omega)) _))
    go_wp2_with fail
    refine (of_any _ w.heap.size (w.heap.size + 1) 62 w5.heap.size 4 4 (hr5.below (hb6.mono (by omega))) (by omega) (by omega) (strs4 w5) (by omega)).mono ?_
    rintro e w6 ⟨S1, rfl, hS1, hg6⟩
    have hB6 := below_of (bcall hB5 hB5.size hb6) hg6 (Nat.le_refl _)
    have ha1 : ∀ w : World, Sem.run Try.prog (Op.stringOp .add (str tx) S1) w = .ok (.string (str tx ++ S1)) w := fun w => run_string_add w (str tx) S1 (by rw [hsz]; omega) (by omega)
    go_wp2
    go_ret
    exact ⟨_, rfl, by rw [ByteArray.size_append, hsz]; omega, hB6⟩
  · have e0 : (v == 0) = false := by simp [k0]
    have e1 : (v == 1) = false := by simp [k1]
    have e2 : (v == 2) = false := by simp [k2]
    clear k0 k1 k2
    go_wp2
    go_ret
    exact ⟨_, rfl, by rw [hsz]; omega, hB5⟩
end Go.Proofs.Yteibklaabnnfbaa
