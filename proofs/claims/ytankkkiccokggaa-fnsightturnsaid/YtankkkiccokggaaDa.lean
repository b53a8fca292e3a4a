/-
  The reader from which the laws draw: a number that it picks lies in its bounds, and it turns nothing but its own place.
-/
import Derived.Test.YtankkkiccokggaaOa
import Derived.Deep.QuietTactic
import Derived.BigQuiet
import Derived.Laws.Bits64
namespace Go.Proofs.Ytankkkiccokggaa
open Go.RowKit
set_option linter.unusedVariables false

/-- A reader at block rb: its bytes (n of them, f gives them), and how many were read. -/
structure Rd (w : World) (rb : Nat) (a : Option Addr) (b off n cap : Nat) (f : Nat → Int) (p : Nat) : Prop where
  c0 : w.cell? ⟨rb, 0, none⟩ = some (.slice a n cap)
  c1 : w.cell? ⟨rb, 1, none⟩ = some (.int .i64 (p : Int))
  fr : w.frozen? ⟨rb, 1, none⟩ = false
  ha : 0 < n → a = some ⟨b, off, none⟩
  bytes : ∀ i, i < n → w.cell? ⟨b, off + i, none⟩ = some (.int .u8 (f i))
  range : ∀ i, 0 ≤ f i ∧ f i ≤ 255
  ne : 0 < n → b ≠ rb
  hn : n ≤ 2000

theorem Rd.kept {w w' : World} {rb : Nat} {a : Option Addr} {b off n cap : Nat} {f : Nat → Int} {p : Nat} (h : Rd w rb a b off n cap f p) (hb : Below w.heap.size w w') : Rd w' rb a b off n cap f p :=
  ⟨keepc hb h.c0, keepc hb h.c1, keepf hb h.c1 h.fr, h.ha, fun i hi => keepc hb (h.bytes i hi), h.range, h.ne, h.hn⟩
theorem Rd.keptg {w w' : World} {rb : Nat} {a : Option Addr} {b off n cap : Nat} {f : Nat → Int} {p g : Nat} (h : Rd w rb a b off n cap f p) (hg : w.grownBy w' (some g)) (h1 : rb ≠ g) (h2 : b ≠ g) : Rd w' rb a b off n cap f p :=
  ⟨hg.cell h.c0 (by simpa using h1), hg.cell h.c1 (by simpa using h1), (World.frozen?_of_block (a := ⟨rb, 1, none⟩) (hg.block rb (World.block_lt_of_cell? w _ h.c1) (by simpa using h1))).trans h.fr, h.ha, fun i hi => hg.cell (h.bytes i hi) (by simpa using h2), h.range, h.ne, h.hn⟩

theorem i64_xor (a b : Nat) (ha : a < 9223372036854775808) (hb : b < 9223372036854775808) : bits .xor .i64 (a : Int) (b : Int) = ((a ^^^ b : Nat) : Int) := by
  have hx : a ^^^ b < 2 ^ 63 := Nat.xor_lt_two_pow (by omega) (by omega)
  have h1 : (BitVec.ofInt 64 (a : Int)).toNat = a := by
    rw [BitVec.ofInt_natCast, BitVec.toNat_ofNat]; exact Nat.mod_eq_of_lt (by omega)
  have h2 : (BitVec.ofInt 64 (b : Int)).toNat = b := by
    rw [BitVec.ofInt_natCast, BitVec.toNat_ofNat]; exact Nat.mod_eq_of_lt (by omega)
  show IntKind.i64.wrap ((BitVec.ofInt 64 (a : Int) ^^^ BitVec.ofInt 64 (b : Int)).toNat : Int) = _
  rw [BitVec.toNat_xor, h1, h2]
  exact IntWalk.i64_in _ (by omega)

theorem pick_w {w : World} {rb : Nat} {a : Option Addr} {b off n cap : Nat} {f : Nat → Int} {p : Nat} (h : Rd w rb a b off n cap f p) (nq : Nat) :
    Rd ((w.setCell ⟨rb, 1, none⟩ (.int .i64 ((p : Int) + 1))).drewN nq) rb a b off n cap f (p + 1) ∧ w.grownBy ((w.setCell ⟨rb, 1, none⟩ (.int .i64 ((p : Int) + 1))).drewN nq) (some rb) := by
  refine ⟨⟨?_, ?_, ?_, h.ha, fun i hi => ?_, h.range, h.ne, h.hn⟩, ⟨rfl, rfl, rfl, by simp [World.setCell, World.drewN], fun k _ hk => ?_⟩⟩
  · rw [World.cell?_drewN, World.cell?_setCell_other _ _ _ _ (by simp)]; exact h.c0
  · rw [World.cell?_drewN, World.cell?_setCell_same _ _ _ h.c1]; simp
  · show ((w.setCell ⟨rb, 1, none⟩ (.int .i64 ((p : Int) + 1)))).frozen? _ = _
    rw [World.frozen?_setCell]; exact h.fr
  · rw [World.cell?_drewN]; exact setc (h.ne (by omega)) (h.bytes i hi)
  · exact Below.heap_setCell w ⟨rb, 1, none⟩ _ k (by intro e; exact hk (by simp [e]))

set_option maxHeartbeats 1000000 in
theorem pick_any (m : Int) (w : World) (rb : Nat) (a : Option Addr) (b off n cap : Nat) (f : Nat → Int) (p : Nat) (h : Rd w rb a b off n cap f p) (hp : p ≤ 1000000) (hm : 1 ≤ m ∧ m ≤ 1000000) :
    Calls Try.prog 53 #[.pointer (some ⟨rb, 0, none⟩), .int .i64 m] w fun e w' => ∃ v : Int, e = .returned (.int .i64 v) ∧ 0 ≤ v ∧ v < m ∧ Rd w' rb a b off n cap f (p + 1) ∧ w.grownBy w' (some rb) := by
  have HP := pick_w h
  obtain ⟨c0, c1, fr, ha, bytes, range, ne, hn⟩ := h
  by_cases h0 : n = 0
  · subst h0
    go_enter Try.func53, Try.ntmps53
    go_wp2
    go_ret
    exact ⟨0, rfl, by omega, by omega, HP 0⟩
  obtain rfl := ha (by omega)
  have hne := ne (by omega)
  have hn0 : ((n : Int) == 0) = false := by simp; omega
  by_cases hk : p < n
  · have hx := bytes p hk
    have r1 := range p
    have hx2 : (w.setCell ⟨rb, 1, none⟩ (.int .i64 ((p : Int) + 1))).cell? ⟨b, off + p, none⟩ = some (.int .u8 (f p)) := setc hne hx
    generalize f p = x at *
    have m1 : 0 ≤ x % m := Int.emod_nonneg _ (by omega)
    have m2 : x % m < m := Int.emod_lt_of_pos _ (by omega)
    clear bytes range ne ha
    go_enter Try.func53, Try.ntmps53
    go_wp2
    go_ret
    exact ⟨_, rfl, m1, m2, HP 0⟩
  · have l1 : p % n < n := Nat.mod_lt _ (by omega)
    have l2 : (p * 7 + 3) % n < n := Nat.mod_lt _ (by omega)
    have hx1 : (w.setCell ⟨rb, 1, none⟩ (.int .i64 ((p : Int) + 1))).cell? ⟨b, off + p % n, none⟩ = some (.int .u8 (f (p % n))) := setc hne (bytes _ l1)
    have hx2 : (w.setCell ⟨rb, 1, none⟩ (.int .i64 ((p : Int) + 1))).cell? ⟨b, off + (p * 7 + 3) % n, none⟩ = some (.int .u8 (f ((p * 7 + 3) % n))) := setc hne (bytes _ l2)
    have r1 := range (p % n)
    have r2 := range ((p * 7 + 3) % n)
    generalize f (p % n) = x1 at *
    generalize f ((p * 7 + 3) % n) = x2 at *
    have q1 : (0 : Int) ≤ (p : Int) % (n : Int) := Int.emod_nonneg _ (by omega)
    have q2 : (p : Int) % (n : Int) < (n : Int) := Int.emod_lt_of_pos _ (by omega)
    have q3 : (0 : Int) ≤ ((p : Int) * 7 + 3) % (n : Int) := Int.emod_nonneg _ (by omega)
    have q4 : ((p : Int) * 7 + 3) % (n : Int) < (n : Int) := Int.emod_lt_of_pos _ (by omega)
    have q5 : (0 : Int) ≤ (p : Int) / (n : Int) := Int.ediv_nonneg (by omega) (by omega)
    have q6 : (p : Int) / (n : Int) ≤ (p : Int) := Int.ediv_le_self _ (by omega)
    have t1 : ((p : Int) % (n : Int)).toNat = p % n := by have : ((p % n : Nat) : Int) = (p : Int) % (n : Int) := by simp
                                                          omega
    have t2 : (((p : Int) * 7 + 3) % (n : Int)).toNat = (p * 7 + 3) % n := by have : (((p * 7 + 3) % n : Nat) : Int) = ((p : Int) * 7 + 3) % (n : Int) := by simp
                                                                              omega
    obtain ⟨X, hX⟩ : ∃ X : Nat, x1 * 131 + x2 * 1117 + (p : Int) * 29 + (p : Int) / (n : Int) * 53 = (X : Int) := Int.eq_ofNat_of_zero_le (by omega)
    have hXb : X ≤ 1000000000 := by omega
    have hY : bits .xor .i64 (X : Int) ((X : Int) / 64) = ((X ^^^ X / 64 : Nat) : Int) := by
      have := i64_xor X (X / 64) (by omega) (by omega)
      simpa using this
    have hYb : X ^^^ X / 64 < 2 ^ 32 := Nat.xor_lt_two_pow (by omega) (by omega)
    generalize X ^^^ X / 64 = Y at *
    have m1 : 0 ≤ (Y : Int) % m := Int.emod_nonneg _ (by omega)
    have m2 : (Y : Int) % m < m := Int.emod_lt_of_pos _ (by omega)
    have HX : Hid (x1 * 131 + x2 * 1117 + (p : Int) * 29 + (p : Int) / (n : Int) * 53 = (X : Int)) := hX
    have HY : Hid (bits .xor .i64 (X : Int) ((X : Int) / 64) = (Y : Int)) := hY
    have hYc : (Y : Int) ≤ 4294967296 := by omega
    clear bytes range ne ha hX hY hYb
    go_enter Try.func53, Try.ntmps53
    go_wp2
    go_quiet (fail)
    go_wp2
    go_ret
    have e : (bits BinOp.xor IntKind.i64 (x1 * 131 + x2 * 1117 + (p : Int) * 29 + (p : Int) / (n : Int) * 53) ((x1 * 131 + x2 * 1117 + (p : Int) * 29 + (p : Int) / (n : Int) * 53) / 64)).tmod m = (Y : Int) % m := by
      rw [HX.out, HY.out]
      exact Int.tmod_eq_emod_of_nonneg (by omega)
    exact ⟨(Y : Int) % m, congrArg (fun z => Ending.returned (.int .i64 z)) e, m1, m2, HP _⟩

theorem picks {w w' w2 : World} {rb : Nat} (h : w.grownBy w' (some rb)) (h2 : w'.grownBy w2 (some rb)) : w.grownBy w2 (some rb) :=
  ⟨h2.os.trans h.os, h2.tape.trans h.tape, h2.output.trans h.output, Nat.le_trans h.size h2.size, fun k hk hne => (h2.block k (Nat.lt_of_lt_of_le hk h.size) hne).trans (h.block k hk hne)⟩
theorem picksB {w w' w2 : World} {rb : Nat} (h : w.grownBy w' (some rb)) (h2 : Below w'.heap.size w' w2) : w.grownBy w2 (some rb) :=
  ⟨h2.os.trans h.os, h2.tape.trans h.tape, h2.output.trans h.output, Nat.le_trans h.size h2.size, fun k hk hne => (h2.block k (Nat.lt_of_lt_of_le hk h.size)).trans (h.block k hk hne)⟩
theorem belowP {w w' : World} {rb : Nat} (h : Below w.heap.size w w') : w.grownBy w' (some rb) := ⟨h.os, h.tape, h.output, h.size, fun k hk _ => h.block k hk⟩

end Go.Proofs.Ytankkkiccokggaa
