/- Of the proof: Qy -/
import Derived.Test.YtfhhcfcjhlkdoaaGreatLBk
set_option maxHeartbeats 2000000
namespace Go.Proofs.YtfhhcfcjhlkdoaaGreat
section
open Go Go.Conc Go.ConcN Go.RowKit Go.Conc.Lib Go.ConcR.Gen Go.ConcN.Gen
open Go.ConcR (KK wgBlock WgAt stA smA rd wr mk Payload Aside2 DC0)
instance SqP.twin : Twin3 SqP.prog Tryz.prog := Sq.okP.twin3
instance SqP.self : Twin3 SqP.prog SqP.prog := Sq.okP.self
instance SqN.twin : Twin3 SqN.prog Tryz.prog := Sq.okN.twin3
instance SqN.self : Twin3 SqN.prog SqN.prog := Sq.okN.self
theorem SqP.whole : Whole SqP.prog := Sq.okP.whole Sq.ckP
theorem SqN.whole : Whole SqN.prog := Sq.okN.whole Sq.ckN
theorem SqP.bodies : Bodies SqP.prog Tryz.prog (fun i => Sq.X i = true) := Sq.okP.bodies Sq.ckP
theorem SqN.bodies : Bodies SqN.prog Tryz.prog (fun _ => false = true) := Sq.okN.bodies Sq.ckN
def sF (W H : Nat) (i : Nat) : Nat := if i = 0 then 0 else if i = 1 then W else if i = 2 then W + H else W + H + W
def sE (W H : Nat) (i : Nat) : Nat := if i = 0 then W else if i = 1 then W + H else if i = 2 then W + H + W else W + H + W + H
theorem sides_rng (W H : Nat) : Rng 4 (sF W H) (sE W H) := by
 intro i i' k h1 h2 h3 h4 h5 h6
 rcases (show i = 0 \/ i = 1 \/ i = 2 \/ i = 3 by omega) with rfl | rfl | rfl | rfl <;> rcases (show i' = 0 \/ i' = 1 \/ i' = 2 \/ i' = 3 by omega) with rfl | rfl | rfl | rfl <;> first
  | rfl
  | (exfalso; simp [sF, sE] at h3 h4 h5 h6; omega)
  | (exfalso; simp [sF, sE] at h3 h4 h6; omega)
  | (exfalso; simp [sF, sE] at h4 h5 h6; omega)
section
variable {Goal : Machine -> Trace -> Prop} {Shun : Nat -> Prop} {c : Frame} {cs : List Frame}
set_option maxRecDepth 100000 in
theorem rows_yes (hG : ∀ n m t m' t', runNT Tryz.prog n m t = (.next m', t') -> Goal m' t' -> Goal m t) {W H : Nat} {ga : Option Addr} {cap : Nat} {gs : List (Int × Int)} {l0 : List (Nat × Obj)} {Kc : Nat -> Prop}
  (hok : Sp.okG (W : Int) gs = true) (hW : 1 <= W /\ W <= 5) (hH : 1 <= H /\ H <= 5) (el : gs.length = W * H) (hHd : gs.length / W = H) (hHI : (gs.length : Int) / (W : Int) = (H : Int))
  (hl0 : ∀ p ∈ l0, Kc p.1) (hcl : ∀ w, Hp l0 w -> Closed Kc w) (hKl : ∀ c, Kc c -> ∃ p ∈ l0, p.1 = c) (hga : VRel (idOn Kc) (.slice ga gs.length cap) (.slice ga gs.length cap))
  (hC : ∀ w, Hp l0 w -> ∀ τ d, Sp.CellsAt (w.frz.tp τ d) ga gs)
  (w : World) (hp0 : Hp l0 w) (hKc : ∀ c, Kc c -> c < w.heap.size /\ ¬ Shun c)
  (hfin : ∀ (u : World) (bo : Nat), KeepB (fun e => e < w.heap.size /\ ¬ Shun e) w u -> w.heap.size <= bo -> u.heap[bo]? = some (Sp.picCells (W : Int) gs (2 * (W + H))) -> ∀ Shun' : Nat -> Prop, (∀ e, Shun' e -> Shun e \/ w.heap.size <= e) -> ¬ Shun' bo -> Leads Tryz.prog Goal Shun' (fun _ => False) (G (c.finish (.slice (some ⟨bo, 0, none⟩) (2 * (W + H)) (2 * (W + H)))) cs) u) :
  Leads Tryz.prog Goal Shun (fun _ => False) (G (Frame.enter Tryz.prog 39 #[.agg #[.int .i64 (W : Int), .slice ga gs.length cap], .func (.func 15) #[] #[]] .normal) (c :: cs)) w := by
 haveI : Payload := ⟨0⟩
 obtain ⟨W1, W5⟩ := hW
 obtain ⟨H1, H5⟩ := hH
 have hn25 : gs.length <= 25 := by rw [el]; exact Nat.le_trans (Nat.mul_le_mul W5 H5) (by omega)
 have hM : Sp.manyG (W : Int) gs = ((2 * (W + H) : Nat) : Int) := by rw [Sp.manyG_ok hok hHI]; omega
 have hside : Sp.sidesA (W : Int) (H : Int) (gs.length : Int) = #[.int .i64 ((sF W H 0 : Nat) : Int), .int .i64 (W : Int), .int .i64 0, .int .i64 1, .int .i64 2, .int .i64 0, .int .i64 ((sF W H 1 : Nat) : Int), .int .i64 (H : Int), .int .i64 ((W : Int) - 1), .int .i64 (W : Int), .int .i64 3, .int .i64 1, .int .i64 ((sF W H 2 : Nat) : Int), .int .i64 (W : Int), .int .i64 ((gs.length : Int) - 1), .int .i64 (-1), .int .i64 0, .int .i64 2, .int .i64 ((sF W H 3 : Nat) : Int), .int .i64 (H : Int), .int .i64 ((gs.length : Int) - 1 - (W : Int) + 1), .int .i64 (-(W : Int)), .int .i64 1, .int .i64 3] := by
  simp [Sp.sidesA, sF]
 have hhas : ∀ (f m s o i u : Int), 0 <= f /\ f <= 100 -> 0 <= m /\ m <= 100 -> ∀ (k : Nat) (w : World), Calls SqN.prog 95 #[.agg #[.int .i64 f, .int .i64 m, .int .i64 s, .int .i64 o, .int .i64 i, .int .i64 u], .int .i64 k] w fun e _ => e = .returned (.bool (decide (f <= k /\ (k : Int) < f + m))) :=
  fun f m s o i u h1 h2 k w => (Sp.Sn.has_any f m s o i u k h1 h2 _ rfl w).mono fun e w' h => h.1
 refine rows_leads (L := SqN.prog) (X := fun _ => false = true) (f0 := sF W H) (e0 := sE W H) (rows := fun k => Sp.lightN (W : Int) gs (k : Int)) (many := 2 * (W + H)) hG SqN.whole SqN.bodies (fun _ h => by cases h) SqN.func44 (fun h => by cases h) SqN.func16 (fun h => by cases h) SqN.func60 (fun h => by cases h) hl0 hcl hga
  (fun w hp τ d => ((Sp.Sn.implGridOk_any (W : Int) ga cap gs _ (hC w hp τ d) (by omega)).mono fun e w' h => by rw [h.1, hok]))
  (fun w hp τ d => ((Sp.Sn.implMany_any (W : Int) ga cap gs _ (hC w hp τ d) (by omega)).mono fun e w' h => by rw [h.1, hM]))
  (fun w hp τ d => ((Sp.Sn.sidesOf_any W H ga gs.length cap _ ⟨W1, W5⟩ ⟨H1, H5⟩ hn25 hHd).mono fun e w' h => by rw [h.1, hside]))
  SqN.func95 (fun h => by cases h) SqN.func15 Tryz.func15 rfl rfl (fun h => by cases h) (by kernel_rfl) ?_ ?_ hKl ?_ ?_ ?_ ?_ ?_ ?_ ?_ ?_ ?_ ?_ ?_ ?_ ?_
  (fun k hk w hp τ d => ((Sp.Sn.implLight_any (W : Int) ga cap gs _ (hC w hp τ d) (by omega) (k : Int)).mono fun e w' h => h.1)) ?_ (by omega) w hp0 hKc hfin
 ·exact sides_rng W H
 ·simp [sumTo, sF, sE]; omega
 ·simp [sF, sE]
 ·omega
 ·exact hhas _ _ _ _ _ _ (by simp [sF]) (by omega)
 ·simp [sF, sE]
 ·omega
 ·exact hhas _ _ _ _ _ _ (by simp [sF]; omega) (by omega)
 ·simp [sF, sE]
 ·omega
 ·exact hhas _ _ _ _ _ _ (by simp [sF]; omega) (by omega)
 ·simp [sF, sE]
 ·omega
 ·exact hhas _ _ _ _ _ _ (by simp [sF]; omega) (by omega)
 ·intro j hj
  unfold sE
  split <;> try omega
  split <;> try omega
  split <;> omega
 ·intro k hk
  by_cases h1 : k < W
  ·exact ⟨0, by omega, by simp [sF], by simp [sE]; omega⟩
  ·by_cases h2 : k < W + H
   ·exact ⟨1, by omega, by simp [sF]; omega, by simp [sE]; omega⟩
   ·by_cases h3 : k < W + H + W
    ·exact ⟨2, by omega, by simp [sF]; omega, by simp [sE]; omega⟩
    ·exact ⟨3, by omega, by simp [sF]; omega, by simp [sE]; omega⟩
end
theorem ints_rel {R : BR} {c : Array Value} (h : ∀ i (h : i < c.size), ∃ n, c[i] = .int .i64 n) : RRel R c c := ⟨rfl, fun i h1 _ => by
 obtain ⟨n, e⟩ := h i h1
 rw [e]
 exact .int _ _⟩
theorem tmps22 (v : Value) : #[v] ++ Array.replicate (22 - #[v].size) undef = #[v, undef, undef, undef, undef, undef, undef, undef, undef, undef, undef, undef, undef, undef, undef, undef, undef, undef, undef, undef, undef, undef] := by kernel_rfl
set_option maxRecDepth 100000 in
theorem pic_tells {FinP : Frame -> World -> Prop} {c : Frame} {cs : List Frame} {N : Nat} {R : BR} {wl w : World} {v v' : Value} (hw : WRel N R (wl.tp w.tape w.drawn) w) (hv : VRel R v v') (tr : Tree SqP.prog FinP (Frame.enter SqP.prog 12 #[v] .normal) (c :: cs) wl) :
  ∃ wd ga ga' m gl, v = .agg #[.int .i64 wd, .slice ga (List.length gl) m] /\ v' = .agg #[.int .i64 wd, .slice ga' gl.length m] /\ gl.length < 4611686018427387904 /\ Sp.CellsAt wl ga gl /\ VRel R (.slice ga gl.length m) (.slice ga' gl.length m) := by
 rw [enter_at _ SqP.func12 SqP.body12, SqP.ntmps12, tmps22] at tr
 have tr1 : Tree (@Sq.prog Sq.P) FinP ((base 12).at ⟨#[v, undef, undef, undef, undef, undef, undef, undef, undef, undef, undef, undef, undef, undef, undef, undef, undef, undef, undef, undef, undef, undef], []⟩ [.code (ckAll picRest)]) (c :: cs) wl := tr
 have hrel : ∀ n m ad, v.cells[1]? = some (.slice (some ad) n m) -> ∃ o, wl.heap[ad.block]? = some o /\ ∀ x y, o ≠ .view x y := by
  intro n m ad hx
  have key : ∀ u u', VRel R u u' -> u = .slice (some ad) n m -> ∃ o, wl.heap[ad.block]? = some o /\ ∀ x y, o ≠ .view x y := by
   intro u u' hu e
   subst e
   cases hu with
   | slice _ _ had =>
    obtain ⟨o, o', e1, _, ho⟩ := hw.blk _ _ had.1
    refine ⟨o, e1, fun x y e => ?_⟩
    subst e
    cases ho with
    | other hj _ => cases hj
  cases hv with
  | agg h1 h2 =>
   rename_i cc cc'
   have hx' : cc[1]? = some (.slice (some ad) n m) := hx
   obtain ⟨hl, e⟩ := Array.getElem?_eq_some_iff.1 hx'
   exact key _ _ (h2 1 hl (by rw [<- h1]; exact hl)) e
  | _ => simp [Value.cells] at hx
 obtain ⟨wd, ga, n, m, rfl, hn62, hcells⟩ := @ck_tells Sq.P _ _ _ _ _ _ Sq.wholeP hrel tr1
 obtain ⟨ga', rfl, hgr⟩ : ∃ ga', v' = .agg #[.int .i64 wd, .slice ga' n m] /\ VRel R (.slice ga n m) (.slice ga' n m) := by
  cases hv with
  | agg h1 h2 =>
   rename_i cc'
   have hs : cc'.size = 2 := by rw [<- h1]; rfl
   have q0 := h2 0 (by simp) (by omega)
   have q1 := h2 1 (by simp) (by omega)
   have e0 := vrel_int q0
   have e1 : ∃ ga', cc'[1]'(by omega) = .slice ga' n m := by
    have q1' : VRel R (.slice ga n m) (cc'[1]'(by omega)) := q1
    revert q1'
    generalize cc'[1]'(by omega) = z
    intro q1'
    cases q1' with
    | slice _ _ _ => exact ⟨_, rfl⟩
    | nilSlice _ _ => exact ⟨_, rfl⟩
   obtain ⟨ga', e1⟩ := e1
   refine ⟨ga', congrArg Value.agg (Array.ext (by simp [hs]) fun i hi1 hi2 => ?_), by rw [<- e1]; exact q1⟩
   have : i = 0 \/ i = 1 := by simp at hi2; omega
   rcases this with rfl | rfl
   ·exact e0
   ·exact e1
 obtain ⟨gl, hgl, hCl⟩ := cells_list hcells
 subst hgl
 exact ⟨wd, ga, ga', m, gl, rfl, rfl, hn62, hCl, hgr⟩
set_option maxRecDepth 100000 in
theorem pic_xok (N : Nat) : XOk SqP.prog Tryz.prog (fun i => Sq.X i = true) N := by
 intro FinP f a a' c c' cs cs' R wl w Shun gs t q sl hXf har ha hcs hw tr hB h0 hSh hN hShN hNw
 obtain rfl : f = 12 := by simpa [Sq.X] using hXf
 have ha1 : a.size = 1 := by
  have e : arOk 12 a.size = (a.size == 1) := rfl
  rw [e] at har
  simpa using har
 obtain ⟨v, rfl⟩ : ∃ v, a = #[v] := ⟨a[0], Array.ext (by simp [ha1]) fun i h1 h2 => by
  have : i = 0 := by simp at h2; omega
  subst this
  rfl⟩
 obtain ⟨v', rfl⟩ : ∃ v', a' = #[v'] := ⟨a'[0]'(by rw [<- ha.1]; exact ha1 ▸ Nat.zero_lt_one), Array.ext (by simp [<- ha.1]) fun i h1 h2 => by
  have : i = 0 := by simp at h2; omega
  subst this
  rfl⟩
 have hv : VRel R v v' := ha.2 0 (by simp) (by simp)
 have tr0 := tr
 obtain ⟨wd, ga, ga', m, gl, rfl, rfl, hn62, hCl, hgr⟩ := pic_tells hw hv tr
 clear tr
 have hCw : Sp.CellsAt w ga' gl := cells_other (w := wl.tp w.tape w.drawn) hw hgr (show Sp.CellsAt (wl.tp w.tape w.drawn) ga gl from hCl)
 refine (show Leads Tryz.prog (fun M t => ∃ (n : Nat) (gs' : Array Goroutine) (w' : World) (sl' : Option (Nat × Nat)) (t' : Trace) (q' : Nat -> Nat) (Shun' : Nat -> Prop) (R' : BR) (v v' : Value) (wl' : World),
   runNT Tryz.prog n M t = (.next (crowd gs' w' sl'), t') /\ gs'[0]? = some (G (c'.finish v') cs') /\ Bes Tryz.prog Shun' gs' w' t' q' /\ Desc SqP.prog (Frame.enter SqP.prog 12 #[.agg #[.int .i64 wd, .slice ga gl.length m]] .normal) (c :: cs) wl (c.finish v) cs wl' /\ R.le R' /\ VRel R' v v' /\
   WRel N R' (wl'.tp w'.tape w'.drawn) w' /\ (∀ b c, R' b c -> ¬ Shun' c) /\ (∀ b c, R' b c -> N <= b -> N <= c) /\ (∀ c, Shun' c -> N <= c) /\ Below N w w') Shun (fun _ => False) (G (Frame.enter Tryz.prog 12 #[.agg #[.int .i64 wd, .slice ga' gl.length m]] .normal) (c' :: cs')) w from ?_) gs sl t q hB h0 (fun _ h => h.elim)
 have hG : ∀ (n : Nat) (M : Machine) (t : Trace) (M' : Machine) (t' : Trace), runNT Tryz.prog n M t = (.next M', t') -> (∃ (n : Nat) (gs' : Array Goroutine) (w' : World) (sl' : Option (Nat × Nat)) (t'' : Trace) (q' : Nat -> Nat) (Shun' : Nat -> Prop) (R' : BR) (v v' : Value) (wl' : World),
   runNT Tryz.prog n M' t' = (.next (crowd gs' w' sl'), t'') /\ gs'[0]? = some (G (c'.finish v') cs') /\ Bes Tryz.prog Shun' gs' w' t'' q' /\ Desc SqP.prog (Frame.enter SqP.prog 12 #[.agg #[.int .i64 wd, .slice ga gl.length m]] .normal) (c :: cs) wl (c.finish v) cs wl' /\ R.le R' /\ VRel R' v v' /\
   WRel N R' (wl'.tp w'.tape w'.drawn) w' /\ (∀ b c, R' b c -> ¬ Shun' c) /\ (∀ b c, R' b c -> N <= b -> N <= c) /\ (∀ c, Shun' c -> N <= c) /\ Below N w w') -> (∃ (n : Nat) (gs' : Array Goroutine) (w' : World) (sl' : Option (Nat × Nat)) (t'' : Trace) (q' : Nat -> Nat) (Shun' : Nat -> Prop) (R' : BR) (v v' : Value) (wl' : World),
   runNT Tryz.prog n M t = (.next (crowd gs' w' sl'), t'') /\ gs'[0]? = some (G (c'.finish v') cs') /\ Bes Tryz.prog Shun' gs' w' t'' q' /\ Desc SqP.prog (Frame.enter SqP.prog 12 #[.agg #[.int .i64 wd, .slice ga gl.length m]] .normal) (c :: cs) wl (c.finish v) cs wl' /\ R.le R' /\ VRel R' v v' /\
   WRel N R' (wl'.tp w'.tape w'.drawn) w' /\ (∀ b c, R' b c -> ¬ Shun' c) /\ (∀ b c, R' b c -> N <= b -> N <= c) /\ (∀ c, Shun' c -> N <= c) /\ Below N w w') := by
  rintro n1 M t M' t' h1 ⟨n2, gs', w', sl', t'', q', Shun', R', v, v', wl', h2, h3⟩
  exact ⟨n1 + n2, gs', w', sl', t'', q', Shun', R', v, v', wl', by rw [runNT_add, h1]; exact h2, h3⟩
 have hKc : ∀ e, rng R e -> e < w.heap.size /\ ¬ Shun e := fun e ⟨b, hb⟩ => ⟨(hw.lt hb).2, hSh b e hb⟩
 have hcl : ∀ w1, Hp (held (rng R) w) w1 -> Closed (rng R) w1 := fun w1 hp => held_closed (rng_closed hw) hp
 have hC1 : ∀ w1, Hp (held (rng R) w) w1 -> ∀ τ d, Sp.CellsAt (w1.frz.tp τ d) ga' gl := fun w1 hp τ d => cells_frz hCw (fun b off e => by
  subst e
  have hb : rng R b := by
   cases hgr with
   | slice _ _ had => exact ⟨_, had.1⟩
  have hlt := (hKc b hb).1
  have e2 : w.heap[b]? = some w.heap[b] := Array.getElem?_eq_getElem hlt
  rw [e2]
  exact hp (b, w.heap[b]) (mem_held.2 ⟨hb, e2⟩)) τ d
 have hold : ∀ (wl1 u : World), Below wl.heap.size wl wl1 -> KeepB (fun e => e < w.heap.size /\ ¬ Shun e) w u -> ∀ b e, R b e -> ∃ o o', wl1.heap[b]? = some o /\ u.heap[e]? = some o' /\ ORel R (b < N) o o' := fun wl1 u hb1 hk b e hbe => by
  obtain ⟨o, o', e1, e2, ho⟩ := hw.blk b e hbe
  have hl := hw.lt hbe
  exact ⟨o, o', (hb1.block b hl.1).trans e1, (hk.1 e ⟨hl.2, hSh b e hbe⟩).trans e2, ho⟩
 have hbelow : ∀ u, KeepB (fun e => e < w.heap.size /\ ¬ Shun e) w u -> Below N w u := fun u hk => ⟨hk.2.2.1, hk.2.1, hk.2.2.2.1, hk.2.2.2.2, fun e he => hk.1 e ⟨by omega, fun h => by have := hShN e h; omega⟩⟩
 have hlow : N <= wl.heap.size := hw.low
 rcases hk : Sp.okG wd gl with _ | _
 ·skip
  obtain ⟨vl, wl1, ⟨rfl, hb1⟩, hd⟩ := tree_call tr0 (Post := fun v w' => v = .slice none 0 0 /\ Below wl.heap.size wl w') ((Sp.picNo_any wd ga m gl wl hCl hn62 hk).mono fun e w' h => ⟨_, h.1, rfl, h.2⟩)
  refine pic_leads (Fin := fun _ v _ Sh => v = .slice none 0 0 /\ Sh = Shun) (Out := fun v _ Sh => v = .slice none 0 0 /\ Sh = Shun) hG (fun p h => (mem_held.1 h).1) (hp_held _ w) hKc ?_ (fun _ _ _ _ _ h _ _ _ => h) ?_
  ·intro c0 cs0 w0 hp hK0 _ hfin
   exact rows_none (L := SqN.prog) (X := fun _ => false = true) hG SqN.whole SqN.bodies (fun _ h => by cases h) SqN.func44 (fun h => by cases h) (fun p h => (mem_held.1 h).1) hcl (slice_snd hgr) (fun w hp τ d => ((Sp.Sn.implGridOk_any wd ga' m gl _ (hC1 w hp τ d) (by omega)).mono fun e w' h => by rw [h.1, hk])) w0 hp hK0 fun u hu => hfin _ u Shun hu ⟨rfl, rfl⟩
  ·rintro v u Sh hu ⟨rfl, rfl⟩ gs1 sl1 t1 q1 hB1 h01 _
   refine ⟨0, gs1, u, sl1, t1, q1, Sh, R, .slice none 0 0, .slice none 0 0, wl1, rfl, h01, hB1, hd, BR.le_refl R, .nilSlice 0 0, ⟨hw.one, hold wl1 u hb1 hu, rfl, rfl, ?_⟩, hSh, hN, hShN, hbelow u hu⟩
   have := hb1.size
   show N <= wl1.heap.size
   omega
 ·skip
  obtain ⟨W, H, rfl, h1, h2, h3, h4, el, hH, hHI⟩ := Sp.okG_nat wd gl hk
  have hM : Sp.manyG (W : Int) gl = ((2 * (W + H) : Nat) : Int) := by rw [Sp.manyG_ok hk hHI]; omega
  obtain ⟨vl, wl1, ⟨g, rfl, hg, hgc, hb1⟩, hd⟩ := tree_call tr0 (Post := fun v w' => ∃ g, v = .slice (some ⟨g, 0, none⟩) (2 * (W + H)) (2 * (W + H)) /\ wl.heap.size <= g /\ w'.heap[g]? = some (Sp.picCells (W : Int) gl (2 * (W + H))) /\ Below wl.heap.size wl w') ((Sp.picYes_any (W : Int) ga m gl wl hCl hk (2 * (W + H)) hM).mono fun e w' ⟨g, q1, q2⟩ => ⟨_, q1, g, rfl, q2⟩)
  refine pic_leads (Fin := fun w0 v u Sh => ∃ bo, v = .slice (some ⟨bo, 0, none⟩) (2 * (W + H)) (2 * (W + H)) /\ w0.heap.size <= bo /\ u.heap[bo]? = some (Sp.picCells (W : Int) gl (2 * (W + H))) /\ (∀ e, Sh e -> Shun e \/ w0.heap.size <= e) /\ ¬ Sh bo) (Out := fun v u Sh => ∃ bo, v = .slice (some ⟨bo, 0, none⟩) (2 * (W + H)) (2 * (W + H)) /\ w.heap.size <= bo /\ u.heap[bo]? = some (Sp.picCells (W : Int) gl (2 * (W + H))) /\ (∀ e, Sh e -> Shun e \/ w.heap.size <= e) /\ ¬ Sh bo) hG (fun p h => (mem_held.1 h).1) (hp_held _ w) hKc ?_ ?_ ?_
  ·intro c0 cs0 w0 hp hK0 _ hfin
   exact rows_yes hG hk ⟨h1, h2⟩ ⟨h3, h4⟩ el hH hHI (fun p h => (mem_held.1 h).1) hcl (fun e he => ⟨(e, w.heap[e]'(hKc e he).1), mem_held.2 ⟨he, Array.getElem?_eq_getElem (hKc e he).1⟩, rfl⟩) (slice_snd hgr) hC1 w0 hp hK0 fun u bo hu hbo hc Sh hS hnb => hfin _ u Sh hu ⟨bo, rfl, hbo, hc, hS, hnb⟩
  ·rintro w0 v u u2 Sh ⟨bo, rfl, q1, q2, q3, q4⟩ hz hkeep hsz
   exact ⟨bo, rfl, by omega, (hkeep bo (Array.getElem?_eq_some_iff.1 q2).1).trans q2, fun e he => (q3 e he).imp id fun h => by omega, q4⟩
  ·rintro v u Sh hu ⟨bo, rfl, q1, q2, q3, q4⟩ gs1 sl1 t1 q' hB1 h01 _
   have hone : (R.more g bo).One := by
    refine ⟨fun b e e' x y => ?_, fun b b' e x y => ?_⟩
    ·rcases x with x | ⟨rfl, rfl⟩
     ·rcases y with y | ⟨rfl, rfl⟩
      ·exact hw.one.1 _ _ _ x y
      ·have : b < wl.heap.size := (hw.lt x).1
       omega
     ·rcases y with y | ⟨_, rfl⟩
      ·have : b < wl.heap.size := (hw.lt y).1
       omega
      ·rfl
    ·rcases x with x | ⟨rfl, rfl⟩
     ·rcases y with y | ⟨rfl, rfl⟩
      ·exact hw.one.2 _ _ _ x y
      ·have := (hw.lt x).2
       omega
     ·rcases y with y | ⟨rfl, _⟩
      ·have := (hw.lt y).2
       omega
      ·rfl
   have hle : R.le (R.more g bo) := ⟨fun _ _ h => Or.inl h, fun _ => hone⟩
   refine ⟨0, gs1, u, sl1, t1, q', Sh, R.more g bo, .slice (some ⟨g, 0, none⟩) (2 * (W + H)) (2 * (W + H)), .slice (some ⟨bo, 0, none⟩) (2 * (W + H)) (2 * (W + H)), wl1, rfl, h01, hB1, hd, hle, .slice _ _ ⟨.inr ⟨rfl, rfl⟩, rfl, rfl⟩, ⟨hone, ?_, rfl, rfl, ?_⟩, ?_, ?_, ?_, hbelow u hu⟩
   ·intro b e hbe
    rcases hbe with hbe | ⟨rfl, rfl⟩
    ·obtain ⟨o, o', e1, e2, ho⟩ := hold wl1 u hb1 hu b e hbe
     exact ⟨o, o', e1, e2, ho.mono hle⟩
    ·exact ⟨_, _, hgc, q2, .cells (ints_rel fun i h => ⟨Sp.lightN (W : Int) gl ((i : Nat) : Int), by simp⟩) (fun h => by omega) (fun _ => rfl)⟩
   ·have := hb1.size
    show N <= wl1.heap.size
    omega
   ·intro b e hbe hs
    rcases hbe with hbe | ⟨rfl, rfl⟩
    ·rcases q3 e hs with x | x
     ·exact hSh b e hbe x
     ·have := (hw.lt hbe).2
      omega
    ·exact q4 hs
   ·intro b e hbe hb
    rcases hbe with hbe | ⟨rfl, rfl⟩
    ·exact hN b e hbe hb
    ·omega
   ·intro e he
    rcases q3 e he with x | x
    ·exact hShN e x
    ·omega
end
end Go.Proofs.YtfhhcfcjhlkdoaaGreat
