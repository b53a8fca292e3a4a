/-
  impl.WorldNew: a world at its beginning, in new memory, or nothing.
-/
import Derived.Test.YtjmdlppakinboaaDoorKu
namespace Go.Proofs.YtjmdlppakinboaaDoor
open Go.RowKit
set_option linter.unusedVariables false
set_option linter.unusedSimpArgs false

set_option maxRecDepth 20000 in
set_option maxHeartbeats 600000 in
theorem implWorldNew_any (wd : Int) (cs : List (Int × Int)) (many : Int) (hm : cs.length ≤ 1048576) (ok : Bool) (hok : startOk wd cs many = ok) (tw : Int) (tc : List (Int × Int)) (tn : Nat) (ht : keepAns wd cs many = (tw, tc, tn)) (a : Option Addr) (cap : Nat) (w : World) (hC : CellsAt w a cs) (hE : ErrV w) :
    Calls Tryd.prog 15 #[.agg #[.int .i64 wd, .slice a cs.length cap], .int .i64 many] w fun e w' => ∃ (a1 b1 e1 g1 i1 k1 : Option Addr) (c1 d1 f1 h1 j1 l1 : Nat), e = .returned (.tuple #[.agg #[.int .i64 tw, .slice a1 tc.length c1, .slice b1 0 d1, .slice e1 tn f1, .slice g1 0 h1, .slice i1 tn j1, .slice k1 0 l1], .bool ok]) ∧ Wp w' w.heap.size (.agg #[.int .i64 tw, .slice a1 tc.length c1, .slice b1 0 d1, .slice e1 tn f1, .slice g1 0 h1, .slice i1 tn j1, .slice k1 0 l1]) tw tc tn (fun _ => false) (fun _ => 0) (fun _ => true) (fun _ => false) (fun _ => 0) (fun _ => 0) (.slice a1 tc.length c1) (.slice e1 tn f1) (.slice i1 tn j1) b1 g1 k1 d1 h1 l1 ∧ Below w.heap.size w w' := by
  have hbX : Below w.heap.size w ((w.alloc (.cells #[.int .i64 wd, .slice a cs.length cap] 28)).alloc (.cells #[.int .i64 0, .slice none 0 0, .slice none 0 0, .slice none 0 0, .slice none 0 0, .slice none 0 0, .slice none 0 0] 45)) := (by repeat (first | exact Below.refl _ _ | refine Below.alloc ?_ (by first | exact Nat.le_refl _ | (simp; done) | (simp; omega)) _ | refine Below.drew ?_ | refine Below.setCell ?_ (by first | exact Nat.le_refl _ | (simp; done) | (simp; omega)) _))
  have hX : Box7 ((w.alloc (.cells #[.int .i64 wd, .slice a cs.length cap] 28)).alloc (.cells #[.int .i64 0, .slice none 0 0, .slice none 0 0, .slice none 0 0, .slice none 0 0, .slice none 0 0, .slice none 0 0] 45)) (w.heap.size + 1) (.int .i64 0) (.slice none 0 0) (.slice none 0 0) (.slice none 0 0) (.slice none 0 0) (.slice none 0 0) (.slice none 0 0) := by
    have := Box7.new (w.alloc (.cells #[.int .i64 wd, .slice a cs.length cap] 28)) (.int .i64 0) (.slice none 0 0) (.slice none 0 0) (.slice none 0 0) (.slice none 0 0) (.slice none 0 0) (.slice none 0 0)
    simpa using this
  have CK : Hid (Calls Tryd.prog 8 #[.agg #[.int .i64 wd, .slice a cs.length cap], .int .i64 many] ((w.alloc (.cells #[.int .i64 wd, .slice a cs.length cap] 28)).alloc (.cells #[.int .i64 0, .slice none 0 0, .slice none 0 0, .slice none 0 0, .slice none 0 0, .slice none 0 0, .slice none 0 0] 45)) _) := implKeepNew_any wd cs many hm ok hok tw tc tn ht a cap _ (hC.below hbX) (hE.below' hbX)
  obtain ⟨hlen, htn⟩ := keepAns_len _ _ _ _ _ _ ht
  have hmany : ok = true → many = (tn : Int) := by
    intro e
    rw [e] at hok
    unfold keepAns at ht
    rw [if_pos hok] at ht
    simp only [Prod.mk.injEq] at ht
    have := startOk_n hok
    omega
  have HZ : Hid (ok = false → tw = 0 ∧ tc = [] ∧ tn = 0) := by
    intro e
    rw [e] at hok
    unfold keepAns at ht
    rw [if_neg (by rw [hok]; simp)] at ht
    simp only [Prod.mk.injEq] at ht
    exact ⟨ht.1.symm, ht.2.1.symm, ht.2.2.symm⟩
  have HM : Hid (ok = true → many = (tn : Int)) := hmany
  obtain ⟨i0, hi, iz0, iz1, iz2⟩ := info_parts infoPainter
  clear ht hok hmany
  go_enter Tryd.func15, Tryd.ntmps15
  go_wp2_with fail
  refine CK.out.mono ?_
  rintro e w1 ⟨a2, b2, e2, g2, c2, d2, f2, h2, rfl, hK, hb1⟩
  replace hX := hX.below hb1
  have hB1 := bcall hbX hbX.size hb1
  have hz1 := hb1.size
  simp at hz1
  have Rc := hK.own.range
  have Rp := hK.parts.range
  simp only [World.size_alloc] at Rc Rp
  clear hb1 hbX CK
  cases ok with
  | false =>
    have HZ2 : Hid (tw = 0 ∧ tc = [] ∧ tn = 0) := HZ.out rfl
    clear HZ HM
    have hbK : Below w1.heap.size w1 (w1.alloc (.cells #[.int .i64 tw, .slice a2 tc.length c2, .slice b2 0 d2, .slice e2 tn f2, .slice g2 0 h2] 33)) := (by repeat (first | exact Below.refl _ _ | refine Below.alloc ?_ (by first | exact Nat.le_refl _ | (simp; done) | (simp; omega)) _ | refine Below.drew ?_ | refine Below.setCell ?_ (by first | exact Nat.le_refl _ | (simp; done) | (simp; omega)) _))
    have hX2 := hX.below hbK
    obtain ⟨q0, q1, q2, q3, q4, q5, q6⟩ := hX2.cells
    have th0 := hX2.thaw 0
    have th1 := hX2.thaw 1
    have th2 := hX2.thaw 2
    have th3 := hX2.thaw 3
    have th4 := hX2.thaw 4
    have th5 := hX2.thaw 5
    have th6 := hX2.thaw 6
    have s1 : w.heap.size + 1 < w1.heap.size := hX.lt
    obtain ⟨q0', q1', q2', q3', q4', q5', q6'⟩ := hX.cells
    have th0' := hX.thaw 0
    have th1' := hX.thaw 1
    have th2' := hX.thaw 2
    have th3' := hX.thaw 3
    have th4' := hX.thaw 4
    have th5' := hX.thaw 5
    have th6' := hX.thaw 6
    clear hX hX2
    go_wp2
    obtain ⟨z1, z2, z3⟩ := HZ2.out
    subst z1
    subst z2
    subst z3
    refine bodyPost_ret (v := .tuple #[.agg #[.int .i64 0, .slice none 0 0, .slice none 0 0, .slice none 0 0, .slice none 0 0, .slice none 0 0, .slice none 0 0], .bool false]) (by simp [results, Tryd.results15, go_sem, q0', q1', q2', q3', q4', q5', q6', s1]) rfl ⟨none, none, none, none, none, none, 0, 0, 0, 0, 0, 0, rfl, zero_wp _ _, ?_⟩
    exact (hB1.grown (grown_seven w1 (w.heap.size + 1) (.int .i64 0) (.slice none 0 0) (.slice none 0 0) (.slice none 0 0) (.slice none 0 0) (.slice none 0 0) (.slice none 0 0)) (by omega) (fun k hk => by simp at hk; omega)).alloc (by simp; omega) _
  | true =>
    have hmn := HM.out rfl
    subst hmn
    clear HZ HM
    go_wp2_with fail
    have hW : Box7 ((w1.alloc (.cells #[.int .i64 tw, .slice a2 tc.length c2, .slice b2 0 d2, .slice e2 tn f2, .slice g2 0 h2] 33)).alloc (.cells #[.int .i64 tw, .slice a2 tc.length c2, .slice b2 0 d2, .slice e2 tn f2, .slice g2 0 h2, .slice none 0 0, .slice none 0 0] 45)) (w1.heap.size + 1) (.int .i64 tw) (.slice a2 tc.length c2) (.slice b2 0 d2) (.slice e2 tn f2) (.slice g2 0 h2) (.slice none 0 0) (.slice none 0 0) := by
      have := Box7.new (w1.alloc (.cells #[.int .i64 tw, .slice a2 tc.length c2, .slice b2 0 d2, .slice e2 tn f2, .slice g2 0 h2] 33)) (.int .i64 tw) (.slice a2 tc.length c2) (.slice b2 0 d2) (.slice e2 tn f2) (.slice g2 0 h2) (.slice none 0 0) (.slice none 0 0)
      simpa using this
    have hbE : Below w1.heap.size w1 ((w1.alloc (.cells #[.int .i64 tw, .slice a2 tc.length c2, .slice b2 0 d2, .slice e2 tn f2, .slice g2 0 h2] 33)).alloc (.cells #[.int .i64 tw, .slice a2 tc.length c2, .slice b2 0 d2, .slice e2 tn f2, .slice g2 0 h2, .slice none 0 0, .slice none 0 0] 45)) := (by repeat (first | exact Below.refl _ _ | refine Below.alloc ?_ (by first | exact Nat.le_refl _ | (simp; done) | (simp; omega)) _ | refine Below.drew ?_ | refine Below.setCell ?_ (by first | exact Nat.le_refl _ | (simp; done) | (simp; omega)) _))
    have hX4 := hX.below hbE
    have hK4 := hK.below hbE
    have hB4 := bcall hB1 hB1.size hbE
    clear hX hK hB1 hbE
    obtain ⟨S1, eS1⟩ : ∃ S1, S1 = w1.heap.size := ⟨_, rfl⟩
    obtain ⟨W4, eW4⟩ : ∃ W4, W4 = (w1.alloc (.cells #[.int .i64 tw, .slice a2 tc.length c2, .slice b2 0 d2, .slice e2 tn f2, .slice g2 0 h2] 33)).alloc (.cells #[.int .i64 tw, .slice a2 tc.length c2, .slice b2 0 d2, .slice e2 tn f2, .slice g2 0 h2, .slice none 0 0, .slice none 0 0] 45) := ⟨_, rfl⟩
    rw [← eW4] at hW hX4 hK4 hB4 ⊢
    clear eW4
    rw [← eS1] at hW hz1 Rc Rp ⊢
    clear eS1
    go_loopw [21] (fun ii wr => ∃ (i : Nat) (v : Value) (F : Nat → Value), i ≤ tn ∧ ii = .int .i64 i ∧ Below w.heap.size w wr ∧ Box7 wr (w.heap.size + 1) (.int .i64 0) (.slice none 0 0) (.slice none 0 0) (.slice none 0 0) (.slice none 0 0) (.slice none 0 0) (.slice none 0 0) ∧ Box7 wr (S1 + 1) (.int .i64 tw) (.slice a2 tc.length c2) (.slice b2 0 d2) (.slice e2 tn f2) (.slice g2 0 h2) v (.slice none 0 0) ∧ Own wr (w.heap.size + 1 + 1) (.slice a2 tc.length c2) tc ∧ PartsAt wr (w.heap.size + 1 + 1) (.slice e2 tn f2) tn (fun _ => false) (fun _ => 0) ∧ Rec wr (S1 + 1 + 1) 75 7 v i F ∧ PaintF F i (fun _ => true) (fun _ => false) (fun _ => 0) (fun _ => 0)) (fun ii _ => tn - (intOf ii).toNat)
    case atStart => exact ⟨0, _, fun _ => .bool true, Nat.zero_le _, rfl, hB4, hX4, hW, by simpa using hK4.own, by simpa using hK4.parts, Rec.nil _ _ _ _ _, fun i hi => by omega⟩
    case round =>
      rename World => wo
      obtain ⟨i, v, F, hin, rfl, hb, hX, hB, hO, hPt, hR, hF⟩ := hrel
      have hzo := hB.lt
      obtain ⟨sa, sc, rfl⟩ := hR.slice
      have hown := hR.range
      by_cases hlt : i < tn
      · have bl : decide ((i : Int) < (tn : Int)) = true := decide_eq_true (by omega)
        have wki : IntKind.i64.wrap ((i : Int) + 1) = (i : Int) + 1 := IntWalk.i64_in _ (by omega)
        obtain ⟨-, -, -, -, -, k5, -⟩ := hB.cells
        have hB2 : Hid (Box7 wo (S1 + 1) (.int .i64 tw) (.slice a2 tc.length c2) (.slice b2 0 d2) (.slice e2 tn f2) (.slice g2 0 h2) (.slice sa i sc) (.slice none 0 0)) := hB
        have hX2 : Hid (Box7 wo (w.heap.size + 1) (.int .i64 0) (.slice none 0 0) (.slice none 0 0) (.slice none 0 0) (.slice none 0 0) (.slice none 0 0) (.slice none 0 0)) := hX
        clear hB hX
        go_wp2_with (at_builtin; refine wpList_append_lies _ rfl _ _ _ rfl (S1 + 1 + 1) 75 i0 (.agg #[.bool false, .bool false, .int .i64 0, .int .i64 0, .slice none 0 0, .slice none 0 0, .slice none 0 0]) 7 96 Tryd.underlying42 hi iz0 iz1 iz2 rfl (by omega) _ i ((List.range (i * 7)).map F) rfl (World.ownsRow.alloc hR _) ⟨wo.heap.size, 0, none⟩ 1 1 [.bool true, .bool false, .int .i64 0, .int .i64 0, .slice none 0 0, .slice none 0 0, .slice none 0 0] rfl rfl (World.news_of_block (cs := #[.bool true, .bool false, .int .i64 0, .int .i64 0, .slice none 0 0, .slice none 0 0, .slice none 0 0]) (t := 75) (fr := (0, 0)) (heap_alloc_new wo _)) (by simp [Value.oneCell']) (by omega) (by unfold maxLen; omega) (by omega) (by simp; omega) (wo.heap.size + 1) (by simp) ?_)
        intro g6 k6 w6 hO6 hg6 hat6 hlt6
        have hbA : Below wo.heap.size wo (wo.alloc (.cells #[.bool true, .bool false, .int .i64 0, .int .i64 0, .slice none 0 0, .slice none 0 0, .slice none 0 0] 75)) := (by repeat (first | exact Below.refl _ _ | refine Below.alloc ?_ (by first | exact Nat.le_refl _ | (simp; done) | (simp; omega)) _ | refine Below.drew ?_ | refine Below.setCell ?_ (by first | exact Nat.le_refl _ | (simp; done) | (simp; omega)) _))
        have hne : ∀ x, x < S1 + 1 + 1 → some x ≠ (Value.slice sa i sc).ownBlock := by
          intro x hx q
          have := (hown x q.symm).1
          omega
        have hBA := (hB2.out.below hbA).kept hg6 (hne _ (by omega))
        have hXA := (hX2.out.below hbA).kept hg6 (hne _ (by omega))
        have hOA := (hO.below hbA).keptg hg6 (fun k hk q => hne k (by have := Rc k hk; omega) q.symm)
        have hPA := (hPt.below hbA).kept hg6 (fun k hk q => hne k (by have := Rp k hk; omega) q.symm)
        have hbw : Below w.heap.size w w6 := (bcall hb hb.size hbA).grown hg6 (by have := hb.size; have := hbA.size; omega) (fun k hk => by have := (hown k hk).1; omega)
        have hz6 := hg6.size
        simp at hz6
        have hg6' : S1 + 1 + 1 ≤ g6 := by
          rcases hat6 with q | q
          · exact (hown g6 q).1
          · omega
        have hR6 : Rec w6 (S1 + 1 + 1) 75 7 (.slice (some ⟨g6, 0, none⟩) (i + 1) k6) (i + 1) (pushF F i) := by
          obtain ⟨e0, e1, e2, e3, e4, e5, e6⟩ := pushF_at F i
          refine Rec.push hO6 rfl ?_ (pushF_old F i)
          intro j hj
          have : j = 0 ∨ j = 1 ∨ j = 2 ∨ j = 3 ∨ j = 4 ∨ j = 5 ∨ j = 6 := by omega
          rcases this with rfl | rfl | rfl | rfl | rfl | rfl | rfl
          · rw [Nat.add_zero, e0]; rfl
          · rw [e1]; rfl
          · rw [e2]; rfl
          · rw [e3]; rfl
          · rw [e4]; rfl
          · rw [e5]; rfl
          · rw [e6]; rfl
        have hF6 := PaintF.push hF (pushF_old F i) (pushF_at F i)
        have kf6 := hBA.thaw 5
        obtain ⟨-, -, -, -, -, k56, -⟩ := hBA.cells
        have hG := grown_set w6 (S1 + 1) 5 (.slice (some ⟨g6, 0, none⟩) (i + 1) k6)
        have hB7 := hBA.set5 (.slice (some ⟨g6, 0, none⟩) (i + 1) k6)
        have hX7 := hXA.kept hG (by simp; omega)
        have hO7 := hOA.keptg hG (fun k hk q => by have := Rc k hk; simp at q; omega)
        have hP7 := hPA.kept hG (fun k hk q => by have := Rp k hk; simp at q; omega)
        have hR7 := hR6.kept hG (fun k hk q => by simp [Value.ownBlock] at hk q; omega)
        have hb7 : Below w.heap.size w (w6.setCell ⟨S1 + 1, 5, none⟩ (.slice (some ⟨g6, 0, none⟩) (i + 1) k6)) := hbw.setCell (by simp; omega) _
        clear hO6 hg6 hat6 hB2 hX2 hBA hXA hOA hPA hbw hG hR6 hbA hne hown hb hO hPt hR hF k5
        go_wp2_with fail
        go_roundw
        case rel => exact ⟨i + 1, _, pushF F i, by omega, by go_num, hb7, hX7, hB7, hO7, hP7, hR7, hF6⟩
        case measure => simp [intOf]; omega
      · have hin' : i = tn := by omega
        subst hin'
        have bl : decide ((i : Int) < (i : Int)) = false := decide_eq_false (by omega)
        obtain ⟨k0, k1, k2, k3, k4, k5, k6⟩ := hB.cells
        obtain ⟨q0, q1, q2, q3, q4, q5, q6⟩ := hX.cells
        have th0 := hX.thaw 0
        have th1 := hX.thaw 1
        have th2 := hX.thaw 2
        have th3 := hX.thaw 3
        have th4 := hX.thaw 4
        have th5 := hX.thaw 5
        have th6 := hX.thaw 6
        clear hB hX
        go_wp2
        refine bodyPost_ret (v := .tuple #[.agg #[.int .i64 tw, .slice a2 tc.length c2, .slice b2 0 d2, .slice e2 i f2, .slice g2 0 h2, .slice sa i sc, .slice none 0 0], .bool true]) (by simp [results, Tryd.results15, go_sem, q0, q1, q2, q3, q4, q5, q6]) rfl ⟨a2, b2, e2, g2, sa, _, c2, d2, f2, h2, sc, _, rfl, ?_, ?_⟩
        · have hG := grown_seven wo (w.heap.size + 1) (.int .i64 tw) (.slice a2 tc.length c2) (.slice b2 0 d2) (.slice e2 i f2) (.slice g2 0 h2) (.slice sa i sc) (.slice none 0 0)
          refine ⟨rfl, ⟨rfl, (hO.mono (by omega)).keptg hG (fun k hk q => by have := Rc k hk; simp at q; omega), ?_, hK4.apart⟩, ⟨F, ownsRow_mono' (hR.kept hG (fun k hk q => by have := (hown k hk).1; simp at q; omega)) (by omega), hF⟩, ?_⟩
          · obtain ⟨Fp, hRp, hFp⟩ := hPt.kept hG (fun k hk q => by have := Rp k hk; simp at q; omega)
            exact ⟨Fp, ownsRow_mono' hRp (by omega), hFp⟩
          · intro k hk q
            have h1 := (hown k q).1
            rcases hk with hk | hk
            · have := Rc k hk; omega
            · have := Rp k hk; omega
        · exact hb.grown (grown_seven _ _ _ _ _ _ _ _ _) (by omega) (fun k hk => by simp at hk; omega)
end Go.Proofs.YtjmdlppakinboaaDoor
