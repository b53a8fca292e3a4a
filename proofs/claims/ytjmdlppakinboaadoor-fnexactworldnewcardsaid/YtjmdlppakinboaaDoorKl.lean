/-
  spec.KeepNew of an ok grid, and one to three painters: a keeper at its beginning, in new memory.
-/
import Derived.Test.YtjmdlppakinboaaDoorKk
namespace Go.Proofs.YtjmdlppakinboaaDoor
open Go.RowKit
set_option linter.unusedVariables false
set_option linter.unusedSimpArgs false

theorem ownsRow_mono' {w : World} {B B' : Nat} {e : TypeId} {size : Nat} {v : Value} {n : Nat} {xs : List Value} (h : w.ownsRow B e size v n xs) (hB : B' ≤ B) : w.ownsRow B' e size v n xs := by
  obtain ⟨h1, h2⟩ := h
  refine ⟨h1, ?_⟩
  rcases h2 with h2 | ⟨g, cap, cur, hv, hg, r⟩
  · exact Or.inl h2
  · exact Or.inr ⟨g, cap, cur, hv, by omega, r⟩
theorem PartF.push {F F' : Nat → Value} {n : Nat} (h : PartF F n (fun _ => false) (fun _ => 0)) (q0 : ∀ j, j < n * 3 → F' j = F j) (e0 : F' (n * 3) = .bool false) (e1 : F' (n * 3 + 1) = .int .i64 0) (e2 : ∃ a c, F' (n * 3 + 2) = .slice a 0 c) : PartF F' (n + 1) (fun _ => false) (fun _ => 0) := by
  intro i hi
  by_cases q : i = n
  · subst q
    exact ⟨e0, e1, e2⟩
  · have := h i (by omega)
    rw [q0 _ (by omega), q0 _ (by omega), q0 _ (by omega)]
    exact this

set_option maxHeartbeats 2000000 in
theorem specKeepNew_yes (wd : Int) (a : Option Addr) (cap : Nat) (cs : List (Int × Int)) (n : Nat) (w : World) (hC : CellsAt w a cs) (hm : cs.length ≤ 1048576) (hl : 0 < cs.length) (hyes : startOk wd cs n = true) (hn : n ≤ 3) :
    Calls Tryd.prog 6 #[.agg #[.int .i64 wd, .slice a cs.length cap], .int .i64 (n : Int)] w fun e w' => (∃ g c a2 vp a4, e = .returned (.tuple #[.agg #[.int .i64 wd, .slice (some ⟨g, 0, none⟩) cs.length c, .slice a2 0 0, vp, .slice a4 0 0], .bool true]) ∧ Kp w' w.heap.size (.agg #[.int .i64 wd, .slice (some ⟨g, 0, none⟩) cs.length c, .slice a2 0 0, vp, .slice a4 0 0]) wd cs n (fun _ => false) (fun _ => 0) (.slice (some ⟨g, 0, none⟩) cs.length c) vp a2 a4 0 0) ∧ Below w.heap.size w w' := by
  have hok : okG wd cs = true := by
    have h := hyes
    unfold startOk at h
    simp at h
    exact h.1
  have hin : inB n 1 3 = true := by
    have h := hyes
    unfold startOk at h
    simp at h
    unfold inB
    simp
    omega
  clear hyes
  have HOK : Hid (okG wd cs = true) := hok
  have HIN : Hid (inB n 1 3 = true) := hin
  clear hok hin
  obtain ⟨i0, hi, iz0, iz1, iz2⟩ := info_parts infoPart
  have hbX : Below w.heap.size w ((w.alloc (.cells #[.int .i64 wd, .slice a cs.length cap] 28)).alloc (.cells #[.int .i64 0, .slice none 0 0, .slice none 0 0, .slice none 0 0, .slice none 0 0] 33)) := (by repeat (first | exact Below.refl _ _ | refine Below.alloc ?_ (by first | exact Nat.le_refl _ | (simp; done) | (simp; omega)) _ | refine Below.drew ?_ | refine Below.setCell ?_ (by first | exact Nat.le_refl _ | (simp; done) | (simp; omega)) _))
  have hX : Box5 ((w.alloc (.cells #[.int .i64 wd, .slice a cs.length cap] 28)).alloc (.cells #[.int .i64 0, .slice none 0 0, .slice none 0 0, .slice none 0 0, .slice none 0 0] 33)) (w.heap.size + 1) (.int .i64 0) (.slice none 0 0) (.slice none 0 0) (.slice none 0 0) (.slice none 0 0) := by
    have := Box5.new (w.alloc (.cells #[.int .i64 wd, .slice a cs.length cap] 28)) (.int .i64 0) (.slice none 0 0) (.slice none 0 0) (.slice none 0 0) (.slice none 0 0)
    simpa using this
  have p0 : ((w.alloc (.cells #[.int .i64 wd, .slice a cs.length cap] 28)).alloc (.cells #[.int .i64 0, .slice none 0 0, .slice none 0 0, .slice none 0 0, .slice none 0 0] 33)).cell? ⟨w.heap.size, 0, none⟩ = some (.int .i64 wd) := by simp [go_sem]
  have p1 : ((w.alloc (.cells #[.int .i64 wd, .slice a cs.length cap] 28)).alloc (.cells #[.int .i64 0, .slice none 0 0, .slice none 0 0, .slice none 0 0, .slice none 0 0] 33)).cell? ⟨w.heap.size, 1, none⟩ = some (.slice a cs.length cap) := by simp [go_sem]
  go_enter Tryd.func6, Tryd.ntmps6
  go_wp2_with fail
  refine (specGridOk_any wd a cap cs _ (hC.below hbX) (by omega)).mono ?_
  rintro e w1 ⟨rfl, hb1⟩
  rw [HOK.out]
  replace hX := hX.below hb1
  have hB1 := bcall hbX hbX.size hb1
  have hz1 := hb1.size
  simp at hz1
  replace p0 := keepc hb1 p0; replace p1 := keepc hb1 p1
  clear hb1 hbX
  go_wp2_with fail
  refine (l6In_any n 1 3 _).mono ?_
  rintro e w2 ⟨rfl, rfl⟩
  rw [HIN.out]
  go_wp2_with fail
  have hC1 := hC.below hB1
  rcases hC1 with h0 | ⟨b, off, rfl, hbl, hcell⟩
  · rw [h0] at hl; simp at hl
  refine (l1Copy_any wd b off cap cs _ hbl hcell hm hl).mono ?_
  rintro e w3 ⟨g, c, rfl, hO3, hb3⟩
  replace hX := hX.below hb3
  have hB3 := bcall hB1 hB1.size hb3
  have hz3 := hb3.size
  have hg := hO3.range g rfl
  clear hcell hb3 p0 p1 hC
  go_wp2_with fail
  have hE : Box5 (((w3.alloc (.cells #[] 92)).alloc (.cells #[] 96)).alloc (.cells #[.int .i64 wd, .slice (some ⟨g, 0, none⟩) cs.length c, .slice (some ⟨w3.heap.size, 0, none⟩) 0 0, .slice none 0 0, .slice (some ⟨w3.heap.size + 1, 0, none⟩) 0 0] 33)) (w3.heap.size + 1 + 1) (.int .i64 wd) (.slice (some ⟨g, 0, none⟩) cs.length c) (.slice (some ⟨w3.heap.size, 0, none⟩) 0 0) (.slice none 0 0) (.slice (some ⟨w3.heap.size + 1, 0, none⟩) 0 0) := by
    have := Box5.new ((w3.alloc (.cells #[] 92)).alloc (.cells #[] 96)) (.int .i64 wd) (.slice (some ⟨g, 0, none⟩) cs.length c) (.slice (some ⟨w3.heap.size, 0, none⟩) 0 0) (.slice none 0 0) (.slice (some ⟨w3.heap.size + 1, 0, none⟩) 0 0)
    simpa using this
  have hbE : Below w3.heap.size w3 (((w3.alloc (.cells #[] 92)).alloc (.cells #[] 96)).alloc (.cells #[.int .i64 wd, .slice (some ⟨g, 0, none⟩) cs.length c, .slice (some ⟨w3.heap.size, 0, none⟩) 0 0, .slice none 0 0, .slice (some ⟨w3.heap.size + 1, 0, none⟩) 0 0] 33)) := (by repeat (first | exact Below.refl _ _ | refine Below.alloc ?_ (by first | exact Nat.le_refl _ | (simp; done) | (simp; omega)) _ | refine Below.drew ?_ | refine Below.setCell ?_ (by first | exact Nat.le_refl _ | (simp; done) | (simp; omega)) _))
  have hX4 := hX.below hbE
  have hO4 := hO3.below hbE
  have hB4 := bcall hB3 hB3.size hbE
  have hz4 : w3.heap.size + 1 + 1 + 1 ≤ (((w3.alloc (.cells #[] 92)).alloc (.cells #[] 96)).alloc (.cells #[.int .i64 wd, .slice (some ⟨g, 0, none⟩) cs.length c, .slice (some ⟨w3.heap.size, 0, none⟩) 0 0, .slice none 0 0, .slice (some ⟨w3.heap.size + 1, 0, none⟩) 0 0] 33)).heap.size := by simp
  clear hX hO3 hB3 hbE
  obtain ⟨S3, eS3⟩ : ∃ S3, S3 = w3.heap.size := ⟨_, rfl⟩
  obtain ⟨W4, eW4⟩ : ∃ W4, W4 = (((w3.alloc (.cells #[] 92)).alloc (.cells #[] 96)).alloc (.cells #[.int .i64 wd, .slice (some ⟨g, 0, none⟩) cs.length c, .slice (some ⟨w3.heap.size, 0, none⟩) 0 0, .slice none 0 0, .slice (some ⟨w3.heap.size + 1, 0, none⟩) 0 0] 33)) := ⟨_, rfl⟩
  rw [← eW4] at hE hX4 hO4 hB4 hz4 ⊢
  clear eW4
  rw [← eS3] at hE hz3 hg hz4 ⊢
  clear eS3
  have hzw : w.heap.size + 2 ≤ S3 := by omega
  have hgr : w.heap.size + 2 ≤ g ∧ g < S3 := by omega
  have hO5 := hO4.mono (show w.heap.size ≤ w2.heap.size by omega)
  clear hO4 hz3 hg hB1 hz1
  go_loopw [7] (fun ii wr => ∃ (i : Nat) (v : Value) (F : Nat → Value), i ≤ n ∧ ii = .int .i64 i ∧ Below w.heap.size w wr ∧ Box5 wr (w.heap.size + 1) (.int .i64 0) (.slice none 0 0) (.slice none 0 0) (.slice none 0 0) (.slice none 0 0) ∧ Box5 wr (S3 + 1 + 1) (.int .i64 wd) (.slice (some ⟨g, 0, none⟩) cs.length c) (.slice (some ⟨S3, 0, none⟩) 0 0) v (.slice (some ⟨S3 + 1, 0, none⟩) 0 0) ∧ Own wr w.heap.size (.slice (some ⟨g, 0, none⟩) cs.length c) cs ∧ Rec wr (S3 + 1 + 1 + 1) 56 3 v i F ∧ PartF F i (fun _ => false) (fun _ => 0)) (fun ii _ => n - (intOf ii).toNat)
  case atStart => exact ⟨0, _, fun _ => .bool true, Nat.zero_le _, rfl, hB4, hX4, hE, hO5, Rec.nil _ _ _ _ _, fun i hi => by omega⟩
  case round =>
    rename World => wo
    obtain ⟨i, v, F, hin, rfl, hb, hX, hK, hO, hR, hF⟩ := hrel
    have hzo := hK.lt
    obtain ⟨sa, sc, rfl⟩ := hR.slice
    have hown := hR.range
    by_cases hlt : i < n
    · have bl : decide ((i : Int) < (n : Int)) = true := decide_eq_true (by omega)
      obtain ⟨-, -, -, k3, -⟩ := hK.cells
      have hK2 : Hid (Box5 wo (S3 + 1 + 1) (.int .i64 wd) (.slice (some ⟨g, 0, none⟩) cs.length c) (.slice (some ⟨S3, 0, none⟩) 0 0) (.slice sa i sc) (.slice (some ⟨S3 + 1, 0, none⟩) 0 0)) := hK
      have hX2 : Hid (Box5 wo (w.heap.size + 1) (.int .i64 0) (.slice none 0 0) (.slice none 0 0) (.slice none 0 0) (.slice none 0 0)) := hX
      clear hK hX
      go_wp2_with (at_builtin; refine wpList_append_lies _ rfl _ _ _ rfl (S3 + 1 + 1 + 1) 56 i0 (.agg #[.bool false, .int .i64 0, .slice none 0 0]) 3 40 Tryd.underlying30 hi iz0 iz1 iz2 rfl (by omega) _ i ((List.range (i * 3)).map F) rfl (World.ownsRow.alloc (World.ownsRow.alloc hR _) _) ⟨wo.heap.size + 1, 0, none⟩ 1 1 [.bool false, .int .i64 0, .slice (some ⟨wo.heap.size, 0, none⟩) 0 0] rfl rfl (World.news_of_block (cs := #[.bool false, .int .i64 0, .slice (some ⟨wo.heap.size, 0, none⟩) 0 0]) (t := 56) (fr := (0, 0)) (by have := heap_alloc_new (wo.alloc (.cells #[] 3)) (.cells #[.bool false, .int .i64 0, .slice (some ⟨wo.heap.size, 0, none⟩) 0 0] 56); simpa using this)) (by simp [Value.oneCell']) (by omega) (by unfold maxLen; omega) (by omega) (by simp; omega) (wo.heap.size + 1 + 1) (by simp) ?_)
      intro g6 k6 w6 hO6 hg6 hat6 hlt6
      have hbA : Below wo.heap.size wo ((wo.alloc (.cells #[] 3)).alloc (.cells #[.bool false, .int .i64 0, .slice (some ⟨wo.heap.size, 0, none⟩) 0 0] 56)) := (by repeat (first | exact Below.refl _ _ | refine Below.alloc ?_ (by first | exact Nat.le_refl _ | (simp; done) | (simp; omega)) _ | refine Below.drew ?_ | refine Below.setCell ?_ (by first | exact Nat.le_refl _ | (simp; done) | (simp; omega)) _))
      have hne : ∀ x, x < S3 + 1 + 1 + 1 → some x ≠ (Value.slice sa i sc).ownBlock := by
        intro x hx q
        have := (hown x q.symm).1
        omega
      have hKA := (hK2.out.below hbA).kept hg6 (hne _ (by omega))
      have hXA := (hX2.out.below hbA).kept hg6 (hne _ (by omega))
      have hOA := (hO.below hbA).keptg hg6 (fun k hk q => by
        simp [Value.ownBlock] at hk
        subst hk
        exact hne _ (by omega) q.symm)
      have hBA : Below w.heap.size w w6 := (bcall hb hb.size hbA).grown hg6 (by have := hb.size; have := hbA.size; omega) (fun k hk => by have := (hown k hk).1; omega)
      have hz6 := hg6.size
      simp at hz6
      have hg6' : S3 + 1 + 1 + 1 ≤ g6 := by
        rcases hat6 with q | q
        · exact (hown g6 q).1
        · omega
      have hR6 : Rec w6 (S3 + 1 + 1 + 1) 56 3 (.slice (some ⟨g6, 0, none⟩) (i + 1) k6) (i + 1) (fun j => if j < i * 3 then F j else if j = i * 3 then .bool false else if j = i * 3 + 1 then .int .i64 0 else .slice (some ⟨wo.heap.size, 0, none⟩) 0 0) := by
        refine Rec.push hO6 rfl ?_ ?_
        · intro j hj
          have : j = 0 ∨ j = 1 ∨ j = 2 := by omega
          rcases this with rfl | rfl | rfl <;> simp <;> (intro h; omega)
        · intro j hj
          simp [hj]
      have hF6 : PartF (fun j => if j < i * 3 then F j else if j = i * 3 then .bool false else if j = i * 3 + 1 then .int .i64 0 else .slice (some ⟨wo.heap.size, 0, none⟩) 0 0) (i + 1) (fun _ => false) (fun _ => 0) := by
        refine PartF.push hF (fun j hj => by simp [hj]) (by simp) (by simp; intro h; omega) ⟨some ⟨wo.heap.size, 0, none⟩, 0, by simp; intro h; omega⟩
      obtain ⟨F6, eF6⟩ : ∃ F6, F6 = (fun j => if j < i * 3 then F j else if j = i * 3 then .bool false else if j = i * 3 + 1 then .int .i64 0 else .slice (some ⟨wo.heap.size, 0, none⟩) 0 0) := ⟨_, rfl⟩
      rw [← eF6] at hR6 hF6
      obtain ⟨-, -, -, k36, -⟩ := hKA.cells
      have kf6 := hKA.thaw 3
      have hG := grown_set w6 (S3 + 1 + 1) 3 (.slice (some ⟨g6, 0, none⟩) (i + 1) k6)
      have hK7 := hKA.set3 (.slice (some ⟨g6, 0, none⟩) (i + 1) k6)
      have hX7 := hXA.kept hG (by simp; omega)
      have hO7 := hOA.keptg hG (fun k hk q => by simp [Value.ownBlock] at hk q; omega)
      have hR7 := hR6.kept hG (fun k hk q => by simp [Value.ownBlock] at hk q; omega)
      have hB7 : Below w.heap.size w (w6.setCell ⟨S3 + 1 + 1, 3, none⟩ (.slice (some ⟨g6, 0, none⟩) (i + 1) k6)) := hBA.setCell (by simp; omega) _
      clear hO6 hg6 hat6 hK2 hX2 hKA hXA hOA hBA hG hR6 hbA hne hown hb hO hR hF eF6 k3
      go_wp2_with fail
      go_roundw
      case rel => exact ⟨i + 1, _, F6, by omega, by go_num, hB7, hX7, hK7, hO7, hR7, hF6⟩
      case measure => simp [intOf]; omega
    · have hin' : i = n := by omega
      subst hin'
      have bl : decide ((i : Int) < (i : Int)) = false := decide_eq_false (by omega)
      obtain ⟨k0, k1, k2, k3, k4⟩ := hK.cells
      obtain ⟨q0, q1, q2, q3, q4⟩ := hX.cells
      have f0 := hX.thaw 0
      have f1 := hX.thaw 1
      have f2 := hX.thaw 2
      have f3 := hX.thaw 3
      have f4 := hX.thaw 4
      clear hK hX
      go_wp2
      refine bodyPost_ret (v := .tuple #[.agg #[.int .i64 wd, .slice (some ⟨g, 0, none⟩) cs.length c, .slice (some ⟨S3, 0, none⟩) 0 0, .slice sa i sc, .slice (some ⟨S3 + 1, 0, none⟩) 0 0], .bool true]) (by simp [results, Tryd.results6, go_sem, q0, q1, q2, q3, q4]) rfl ⟨⟨g, c, _, _, _, rfl, ?_⟩, ?_⟩
      · have hG := grown_five wo (w.heap.size + 1) (.int .i64 wd) (.slice (some ⟨g, 0, none⟩) cs.length c) (.slice (some ⟨S3, 0, none⟩) 0 0) (.slice sa i sc) (.slice (some ⟨S3 + 1, 0, none⟩) 0 0)
        have hR2 := hR.kept hG (fun k hk q => by have := (hown k hk).1; simp at q; omega)
        refine ⟨rfl, hO.keptg hG (fun k hk q => by simp [Value.ownBlock] at hk q; omega), ⟨F, ?_, hF⟩, ?_⟩
        · exact ownsRow_mono' hR2 (by omega)
        · intro k hk q
          have := (hown k q).1
          simp [Value.ownBlock] at hk
          omega
      · exact hb.grown (grown_five _ _ _ _ _ _ _) (by omega) (fun k hk => by simp at hk; omega)
end Go.Proofs.YtjmdlppakinboaaDoor
