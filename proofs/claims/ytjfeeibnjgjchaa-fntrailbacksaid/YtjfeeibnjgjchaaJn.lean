/-
  Several texts in one: Xj.
-/
import Derived.Test.YtjfeeibnjgjchaaJl
import Derived.Test.YtjfeeibnjgjchaaJa

/-
  spec.l11Foot: the places that are visited, ascending, each once, in new memory.
-/
namespace Go.Proofs.Ytjfeeibnjgjchaa
open Go.RowKit
set_option linter.unusedVariables false

theorem infoIntF : (Try.prog.info? 3).map (fun i => (i.zero, i.size, i.bytes)) = some (some (.int .i64 0), 1, 8) := by kernel_rfl
theorem infoBoolF : (Try.prog.info? 4).map (fun i => (i.zero, i.size, i.bytes)) = some (some (.bool false), 1, 1) := by kernel_rfl
theorem make_bools (n : Nat) (hn : n ≤ 1048576) (w : World) : (Instr.makeSlice 101 (.int .i64 (n : Int)) (.int .i64 (n : Int))).run Try.prog w = .ok (.slice (some ⟨w.heap.size, 0, none⟩) n n) (w.alloc (.cells (madeCells #[.bool false] n) 4)) := by
  obtain ⟨i0, hi, iz0, iz1, iz2⟩ := info_parts infoBoolF
  have := run_make (P := Try.prog) w 101 4 i0 (.bool false) Try.underlying101 hi iz0 .i64 .i64 (n : Int) (n : Int) (by omega) (by omega) (by rw [iz2]; omega) (by omega)
  rw [iz1] at this
  simpa [Value.cells] using this

/-- The row at g holds c 0, c 1 and so on, m of them. -/
structure RowV (w : World) (g m : Nat) (c : Nat → Value) : Prop where
  lt : g < w.heap.size
  at' : ∀ i, i < m → w.cell? ⟨g, i, none⟩ = some (c i)
  fz : ∀ i, i < m → w.frozen? ⟨g, i, none⟩ = false
theorem rowV_new (w : World) (m : Nat) (z : Value) (t : TypeId) : RowV (w.alloc (.cells (madeCells #[z] m) t)) w.heap.size m (fun _ => z) := by
  refine ⟨by simp, fun i hi => ?_, fun i hi => ?_⟩
  · rw [World.cell?_alloc_at _ _ _ _ rfl]
    simp [madeCells, hi, Nat.mod_one]
  · simp [go_sem]
theorem RowV.below {w w' : World} {g m : Nat} {c : Nat → Value} (h : RowV w g m c) (hb : Below w.heap.size w w') : RowV w' g m c :=
  ⟨Nat.lt_of_lt_of_le h.lt hb.size, fun i hi => keepc hb (h.at' i hi), fun i hi => keepf hb (h.at' i hi) (h.fz i hi)⟩
theorem RowV.grown {w w' : World} {g m : Nat} {c : Nat → Value} {r : Option Nat} (h : RowV w g m c) (hg : w.grownBy w' r) (hne : some g ≠ r) : RowV w' g m c :=
  ⟨Nat.lt_of_lt_of_le h.lt hg.size, fun i hi => hg.cell (h.at' i hi) hne, fun i hi => (hg.frozen_far ⟨g, i, none⟩ h.lt hne).trans (h.fz i hi)⟩
theorem RowV.put {w : World} {g m : Nat} {c c' : Nat → Value} (h : RowV w g m c) (i : Nat) (v : Value) (hi : i < m) (h1 : c' i = v) (h2 : ∀ j, j < m → j ≠ i → c' j = c j) : RowV (w.setCell ⟨g, i, none⟩ v) g m c' := by
  refine ⟨by simpa using h.lt, fun j hj => ?_, fun j hj => ?_⟩
  · by_cases e : j = i
    · subst e
      rw [World.cell?_setCell_same _ _ _ (by rw [h.at' j hj]), h1]
    · have q : (⟨g, i, none⟩ : Addr) ≠ ⟨g, j, none⟩ := fun z => e (Addr.mk.inj z).2.1.symm
      rw [World.cell?_setCell_other _ _ _ _ q, h2 j hj e]
      exact h.at' j hj
  · simpa using h.fz j hj
theorem RowV.like {w : World} {g m : Nat} {c c' : Nat → Value} (h : RowV w g m c) (h2 : ∀ j, j < m → c' j = c j) : RowV w g m c' :=
  ⟨h.lt, fun j hj => by rw [h2 j hj]; exact h.at' j hj, h.fz⟩

/-- Numbers in memory that is owned. -/
def intsV (xs : List Int) : List Value := xs.map fun x => .int .i64 x
def OwnI (w : World) (B : Nat) (v : Value) (xs : List Int) : Prop := w.ownsRow B 3 1 v xs.length (intsV xs)
theorem ownsRow_mono {w : World} {B B' : Nat} {e : TypeId} {s : Nat} {v : Value} {n : Nat} {xs : List Value} (h : w.ownsRow B e s v n xs) (hB : B' ≤ B) : w.ownsRow B' e s v n xs := by
  obtain ⟨h1, h2⟩ := h
  refine ⟨h1, ?_⟩
  rcases h2 with h2 | ⟨g, cap, cur, hv, hg, r⟩
  · exact Or.inl h2
  · exact Or.inr ⟨g, cap, cur, hv, Nat.le_trans hB hg, r⟩

/-- Whether a place is visited; the places that are, of the first so many. -/
def seenAt (vs : List (Int × Int × Int)) (i : Nat) : Bool := vs.any fun u => u.1 == (i : Int)
def footL (n : Nat) (vs : List (Int × Int × Int)) : List Int := ((List.range n).filter fun i => seenAt vs i).map fun (i : Nat) => (i : Int)
theorem foot_step (vs : List (Int × Int × Int)) (i : Nat) : footL (i + 1) vs = if seenAt vs i = true then footL i vs ++ [(i : Int)] else footL i vs := by
  unfold footL
  rw [List.range_succ, List.filter_append, List.map_append]
  split
  · next h => simp [h]
  · next h => simp [h]
theorem foot_le (n : Nat) (vs : List (Int × Int × Int)) : (footL n vs).length ≤ n := by
  unfold footL
  rw [List.length_map]
  exact Nat.le_trans (List.length_filter_le _ _) (by simp)

set_option maxRecDepth 20000 in
set_option maxHeartbeats 4000000 in
theorem l11Foot_any (wd : Int) (a : Option Addr) (cap : Nat) (cs : List (Int × Int)) (w : World) (hm : cs.length ≤ 1048576) (a2 : Option Addr) (c2 : Nat) (vs : List (Int × Int × Int)) (hR : R3At w a2 vs) (hP : ∀ u ∈ vs, 0 ≤ u.1 ∧ u.1 < (cs.length : Int)) (hv : vs.length ≤ 1048576) :
    Calls Try.prog 55 #[.agg #[.int .i64 wd, .slice a cs.length cap], .slice a2 vs.length c2] w fun e w' => ∃ v, e = .returned v ∧ OwnI w' w.heap.size v (footL cs.length vs) ∧ Below w.heap.size w w' := by
  obtain ⟨i0, hi, iz0, iz1, iz2⟩ := info_parts infoIntF
  obtain ⟨n, hn⟩ : ∃ n, cs.length = n := ⟨_, rfl⟩
  rw [hn] at hm hP ⊢
  clear hn
  have HP : Hid (∀ u ∈ vs, 0 ≤ u.1 ∧ u.1 < (n : Int)) := hP
  have hb0 : Below w.heap.size w (w.alloc (.cells #[.int .i64 wd, .slice a n cap] 25)) := (by repeat (first | exact Below.refl _ _ | refine Below.alloc ?_ (by first | exact Nat.le_refl _ | (simp; done) | (simp; omega)) _ | refine Below.drew ?_ | refine Below.setCell ?_ (by first | exact Nat.le_refl _ | (simp; done) | (simp; omega)) _))
  have g1 : (w.alloc (.cells #[.int .i64 wd, .slice a n cap] 25)).cell? ⟨w.heap.size, 1, none⟩ = some (.slice a n cap) := by simp [go_sem]
  have hmk := make_bools n hm
  have HR : Hid (∀ w', Below w.heap.size w w' → R3At w' a2 vs) := fun w' hb => hR.below hb
  clear hP hR
  go_enter Try.func55, Try.ntmps55
  go_wp2_with fail
  obtain ⟨w0, hw0⟩ : ∃ w0, w0 = w.alloc (.cells #[.int .i64 wd, .slice a n cap] 25) := ⟨_, rfl⟩
  have hs0 : w0.heap.size = w.heap.size + 1 := by rw [hw0]; simp
  rw [← hw0] at hb0 g1 ⊢
  clear hw0
  have hmk' : Hid (∀ w : World, RowV (w.alloc (.cells (madeCells #[.bool false] n) 4)) w.heap.size n (fun _ => .bool false)) := fun w => rowV_new w n _ _
  obtain ⟨w1, hw1⟩ : ∃ w1, w1 = w0.alloc (.cells (madeCells #[.bool false] n) 4) := ⟨_, rfl⟩
  have hV1 : RowV w1 w0.heap.size n (fun _ => .bool false) := by rw [hw1]; exact hmk'.out w0
  have hB1 : Below w.heap.size w w1 := by rw [hw1]; exact hb0.alloc hb0.size _
  have hV1' : RowV w1 w0.heap.size n (fun j => .bool (seenAt (vs.take 0) j)) := hV1.like (fun j _ => by simp [seenAt])
  rw [← hw1]
  clear hw1 hmk hV1 hb0 g1
  rw [hs0] at hV1'
  obtain ⟨g, hg⟩ : ∃ g, w.heap.size + 1 = g := ⟨_, rfl⟩
  rw [hg] at hV1' ⊢
  have hgw : w.heap.size < g := by omega
  clear hg hs0
  go_loopw [6] (fun ii wr => ∃ i : Nat, i ≤ vs.length ∧ ii = .int .i64 i ∧ Below w.heap.size w wr ∧ RowV wr g n (fun j => .bool (seenAt (vs.take i) j))) (fun ii _ => vs.length - (intOf ii).toNat)
  case atStart => exact ⟨0, Nat.zero_le _, rfl, hB1, hV1'⟩
  case round =>
    rename World => wo
    obtain ⟨i, hi1, rfl, hb, hV⟩ := hrel
    by_cases hlt : i < vs.length
    · have hR3 := HR.out wo hb
      rcases hR3 with q | ⟨b, off, rfl, hbl, hc⟩
      · rw [q] at hlt; simp at hlt
      obtain ⟨t, et⟩ : ∃ t, vs.getD i (0, 0, 0) = t := ⟨_, rfl⟩
      have hmem : t ∈ vs := by rw [← et]; simp [List.getElem?_eq_getElem hlt]
      obtain ⟨z0, _, _⟩ := hc i hlt
      rw [et] at z0
      obtain ⟨hx0, hx1⟩ := HP.out t hmem
      obtain ⟨X, hX⟩ := Int.eq_ofNat_of_zero_le hx0
      rw [hX] at z0 hx1
      have hXn : X < n := by omega
      have y0 := hV.at' X hXn
      have yf := hV.fz X hXn
      have hst : ∀ j, seenAt (vs.take (i + 1)) j = (seenAt (vs.take i) j || ((X : Int) == (j : Int))) := by
        intro j
        rw [take_one vs i (0, 0, 0) hlt, et]
        unfold seenAt
        rw [List.any_append]
        simp [hX]
      have hV2 : RowV (wo.setCell ⟨g, X, none⟩ (.bool true)) g n (fun j => .bool (seenAt (vs.take (i + 1)) j)) := by
        refine hV.put X (.bool true) hXn (by rw [hst]; simp) (fun j _ hne => ?_)
        rw [hst]
        have : ((X : Int) == (j : Int)) = false := by simp; omega
        rw [this]; simp
      have hb2 : Below w.heap.size w (wo.setCell ⟨g, X, none⟩ (.bool true)) := hb.setCell (p := ⟨g, X, none⟩) (by show w.heap.size ≤ g; omega) _
      obtain ⟨bv, ebv⟩ : ∃ bv, seenAt (vs.take i) X = bv := ⟨_, rfl⟩
      rw [ebv] at y0
      clear hst hc hmem et hX hV ebv
      go_wp2_with fail
      go_roundw
      case rel => exact ⟨i + 1, by omega, by go_num, hb2, hV2⟩
      case measure => simp [intOf]; omega
    · have hV2 : RowV wo g n (fun j => .bool (seenAt vs j)) := hV.like (fun j _ => by rw [List.take_of_length_le (by omega)])
      have hbE : Below wo.heap.size wo (wo.alloc (.cells #[] 3)) := (Below.refl _ _).alloc (Nat.le_refl _) _
      have hgl := hV.lt
      have hO : OwnI (wo.alloc (.cells #[] 3)) (g + 1) (.slice (some ⟨wo.heap.size, 0, none⟩) 0 0) (footL 0 vs) :=
        ⟨rfl, Or.inr ⟨wo.heap.size, 0, #[], rfl, by omega, heap_alloc_new wo _, Nat.le_refl _, by unfold maxLen; omega, rfl, rfl⟩⟩
      have hV3 := hV2.below hbE
      have hB3 := bcall hb hb.size hbE
      clear hV hV2 hbE hb
      go_wp2_with fail
      obtain ⟨w3, hw3⟩ : ∃ w3, w3 = wo.alloc (.cells #[] 3) := ⟨_, rfl⟩
      rw [← hw3] at hO hV3 hB3 ⊢
      clear hw3
      go_loopw [7, 8] (fun oo ii wr => ∃ i : Nat, i ≤ n ∧ ii = .int .i64 i ∧ Below w.heap.size w wr ∧ RowV wr g n (fun j => .bool (seenAt vs j)) ∧ OwnI wr (g + 1) oo (footL i vs)) (fun _ ii _ => n - (intOf ii).toNat)
      case atStart => exact ⟨0, Nat.zero_le _, rfl, hB3, hV3, hO⟩
      case round =>
        rename World => wp
        obtain ⟨i2, hi2, rfl, hb, hV, hO2⟩ := hrel
        have hgl := hV.lt
        by_cases hl2 : i2 < n
        · have y0 := hV.at' i2 hl2
          have hfl := foot_le i2 vs
          have hfs := foot_step vs i2
          rcases hsn : seenAt vs i2 with _ | _
          · rw [hsn] at y0
            rw [if_neg (by simp [hsn])] at hfs
            have HFS : Hid (footL (i2 + 1) vs = footL i2 vs) := hfs
            clear hfs hsn
            go_wp2_with fail
            go_roundw
            case rel => exact ⟨i2 + 1, by omega, by go_num, hb, hV, by rw [HFS.out]; exact hO2⟩
            case measure => simp [intOf]; omega
          · rw [hsn] at y0
            rw [if_pos hsn] at hfs
            have HFS : Hid (footL (i2 + 1) vs = footL i2 vs ++ [(i2 : Int)]) := hfs
            clear hfs hsn
            go_wp2_with (at_builtin; refine wpList_append_lies _ rfl _ _ _ rfl (g + 1) 3 i0 (.int .i64 0) 1 8 Try.underlying48 hi iz0 iz1 iz2 rfl (by omega) _ (footL i2 vs).length (intsV (footL i2 vs)) rfl (World.ownsRow.alloc hO2 _) ⟨wp.heap.size, 0, none⟩ 1 1 [.int .i64 (i2 : Int)] rfl rfl (World.news_of_block (cs := #[.int .i64 (i2 : Int)]) (t := 3) (fr := (0, 0)) (heap_alloc_new wp _)) (by simp [Value.oneCell']) (by omega) (by unfold maxLen; omega) (by omega) (by simp; omega) (wp.heap.size + 1) (by simp) ?_)
            intro g6 k6 w6 hO6 hg6 hat6 hlt6
            have hbA : Below wp.heap.size wp (wp.alloc (.cells #[.int .i64 (i2 : Int)] 3)) := (Below.refl _ _).alloc (Nat.le_refl _) _
            have hown := fun k q => (World.ownsRow.lt hO2 k q).1
            have hV6 := (hV.below hbA).grown hg6 (fun q => by have := hown g q.symm; omega)
            have hb6 : Below w.heap.size w w6 := by
              have hz := hg6.size
              simp at hz
              have hzb := hb.size
              refine ⟨(hg6.os.trans hbA.os).trans hb.os, (hg6.tape.trans hbA.tape).trans hb.tape, (hg6.output.trans hbA.output).trans hb.output, by omega, fun k hk => ?_⟩
              rw [hg6.block k (by simp; omega) (fun q => by have := hown k q.symm; omega), hbA.block k (by omega)]
              exact hb.block k hk
            have hl6 : (footL i2 vs ++ [(i2 : Int)]).length = (footL i2 vs).length + 1 := by simp
            have hO7 : OwnI w6 (g + 1) (.slice (some ⟨g6, 0, none⟩) ((footL i2 vs).length + 1) k6) (footL i2 vs ++ [(i2 : Int)]) := by
              unfold OwnI
              rw [hl6]
              have e : intsV (footL i2 vs ++ [(i2 : Int)]) = intsV (footL i2 vs) ++ [.int .i64 (i2 : Int)] := by simp [intsV]
              rw [e]
              exact hO6
            clear hO6 hg6 hat6 hV hb hO2 hbA hown
            go_wp2_with fail
            go_roundw
            case rel => exact ⟨i2 + 1, by omega, by go_num, hb6, hV6, by rw [HFS.out]; exact hO7⟩
            case measure => simp [intOf]; omega
        · have hfin : i2 = n := by omega
          subst hfin
          go_wp2_with fail
          go_ret
          exact ⟨_, rfl, ownsRow_mono hO2 (by omega), hb⟩
end Go.Proofs.Ytjfeeibnjgjchaa
