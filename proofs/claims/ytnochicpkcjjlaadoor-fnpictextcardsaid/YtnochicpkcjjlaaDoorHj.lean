/-
  spec.PicOf at every grid; DrawPicText draws a grid and a picture: both in new memory.
-/
import Derived.Test.YtnochicpkcjjlaaDoorHi
import Derived.Test.YtnochicpkcjjlaaDoorDz
import Derived.Deep.RegionHeld3
namespace Go.Proofs.YtnochicpkcjjlaaDoor
open Go.RowKit
set_option linter.unusedVariables false
attribute [local go_sem ↓] Go.wp_at_zero Go.wp_at_succ

theorem light_in (wd : Int) (cs : List (Int × Int)) (k : Int) : 0 ≤ lightN wd cs k ∧ lightN wd cs k ≤ 576 := by
  rcases hs : inS wd cs k with _ | _
  · have hv : lightN wd cs k = 0 := by unfold lightN trailT; rw [if_neg (by simp [hs])]; rfl
    rw [hv]; omega
  · have hT := trail_ok hs
    have q := sumL_in cs (trailT wd cs k).2 (fun u hu => lamp_of (inS_ok hs) (hT.ends u hu))
    have e : lightN wd cs k = sumL cs (trailT wd cs k).2 := rfl
    rw [hT.sum] at q
    omega
theorem picN_in (wd : Int) (cs : List (Int × Int)) : ∀ x ∈ picN wd cs, 0 ≤ x ∧ x ≤ 576 := by
  intro x hx
  obtain ⟨k, _, rfl⟩ := List.mem_map.1 hx
  exact light_in wd cs _
theorem picN_len (wd : Int) (cs : List (Int × Int)) : ((picN wd cs).length : Int) = manyG wd cs ∧ (picN wd cs).length ≤ 20 := by
  have := manyG_to wd cs
  unfold picN
  rw [picK_len]
  omega

set_option maxHeartbeats 400000 in
theorem specPicOf_any (wd : Int) (a : Option Addr) (cap : Nat) (cs : List (Int × Int)) (w : World) (h : CellsAt w a cs) (hm : cs.length ≤ 1048576) :
    Calls Tryd.prog 17 #[.agg #[.int .i64 wd, .slice a cs.length cap]] w fun e w' => ∃ v, e = .returned v ∧ OwnI w' w.heap.size v (picN wd cs) ∧ Below w.heap.size w w' := by
  have hbX : Below w.heap.size w (w.alloc (.cells #[.int .i64 wd, .slice a cs.length cap] 25)) := (by repeat (first | exact Below.refl _ _ | refine Below.alloc ?_ (by first | exact Nat.le_refl _ | (simp; done) | (simp; omega)) _ | refine Below.drew ?_ | refine Below.setCell ?_ (by first | exact Nat.le_refl _ | (simp; done) | (simp; omega)) _))
  have g0 : (w.alloc (.cells #[.int .i64 wd, .slice a cs.length cap] 25)).cell? ⟨w.heap.size, 0, none⟩ = some (.int .i64 wd) := by simp [go_sem]
  have g1 : (w.alloc (.cells #[.int .i64 wd, .slice a cs.length cap] 25)).cell? ⟨w.heap.size, 1, none⟩ = some (.slice a cs.length cap) := by simp [go_sem]
  have hC := h.below hbX
  rcases hok : okG wd cs with _ | _
  · have hv : picN wd cs = [] := by unfold picN; rw [manyG_bad hok]; rfl
    rw [hv]
    have hG := specGridOk_any wd a cap cs _ hC (by omega)
    rw [hok] at hG
    clear hok hv h
    go_enter Tryd.func17, Tryd.ntmps17
    go_wp2_with fail
    refine hG.mono ?_
    rintro e wa ⟨rfl, hba⟩
    have hB := bcall hbX hbX.size hba
    have hz := hB.size
    go_wp2
    go_ret
    exact ⟨_, rfl, ⟨rfl, Or.inr ⟨wa.heap.size, 0, #[], rfl, hz, heap_alloc_new wa _, Nat.le_refl _, by unfold maxLen; omega, rfl, rfl⟩⟩, bcall hB hz ((Below.refl _ _).alloc (Nat.le_refl _) _)⟩
  · obtain ⟨W, H, S⟩ := siz_of hok
    have hG := specGridOk_any wd a cap cs _ hC (by omega)
    rw [hok] at hG
    have SS : Hid (Siz wd cs W H) := S
    clear hok h S
    go_enter Tryd.func17, Tryd.ntmps17
    go_wp2_with fail
    refine hG.mono ?_
    rintro e wa ⟨rfl, hba⟩
    replace g0 := keepc hba g0; replace g1 := keepc hba g1
    have hB := bcall hbX hbX.size hba
    have hCa := hC.below hba
    clear hba hC hbX hG
    go_wp2_with fail
    refine (l12Pic_any SS.out a cap _ hCa hm).mono ?_
    rintro e wb ⟨v, rfl, hO, hbb⟩
    go_wp2
    go_ret
    exact ⟨_, rfl, ownsRow_mono hO hB.size, bcall hB hB.size hbb⟩

/-- What is written of a drawn grid stays, whatever is done from L on. -/
structure PD (w wr : World) (gb : Nat) (wd : Int) (a : Option Addr) (c : Nat) (xs : List (Int × Int)) (L : Nat) : Prop where
  sig : SigInv w wr gb wd (.slice a xs.length c)
  cells : CellsAt wr a xs
  new : ∀ b off, a = some ⟨b, off, none⟩ → xs ≠ [] → w.heap.size + 2 ≤ b ∧ b ≠ gb
  g : gb < L
  l : L ≤ wr.heap.size
  lt : ∀ b off, a = some ⟨b, off, none⟩ → xs ≠ [] → b < L
theorem lowc {L : Nat} {w w2 : World} (hb : Below L w w2) {b o : Nat} {v : Value} (hl : b < L) (h : w.cell? ⟨b, o, none⟩ = some v) : w2.cell? ⟨b, o, none⟩ = some v := (hb.cell (p := ⟨b, o, none⟩) hl).trans h
theorem lowf {L : Nat} {w w2 : World} (hb : Below L w w2) {b o : Nat} {v : Bool} (hl : b < L) (h : w.frozen? ⟨b, o, none⟩ = v) : w2.frozen? ⟨b, o, none⟩ = v := (hb.frozen (p := ⟨b, o, none⟩) hl).trans h
theorem PD.low {w wr w2 : World} {gb : Nat} {wd : Int} {a : Option Addr} {c : Nat} {xs : List (Int × Int)} {L : Nat} (h : PD w wr gb wd a c xs L) (hb : Below L wr w2) : PD w w2 gb wd a c xs L := by
  obtain ⟨s1, s2⟩ := h.sig.sz
  have hg := h.g
  have hl := h.l
  have hz := hb.size
  refine ⟨⟨⟨hb.os.trans h.sig.hb.os, hb.tape.trans h.sig.hb.tape, hb.output.trans h.sig.hb.output, by have := h.sig.hb.size; omega, fun k hk => (hb.block k (by omega)).trans (h.sig.hb.block k hk)⟩, lowc hb (by omega) h.sig.p0, lowc hb (by omega) h.sig.p1, lowf hb (by omega) h.sig.fp0, lowf hb (by omega) h.sig.fp1, lowc hb (by omega) h.sig.g0, lowc hb (by omega) h.sig.g1, by omega⟩, ?_, h.new, h.g, by omega, h.lt⟩
  rcases h.cells with q | ⟨b, off, e, hbl, hc⟩
  · exact Or.inl q
  · by_cases hx : xs = []
    · exact Or.inl hx
    · have := h.lt b off e hx
      exact Or.inr ⟨b, off, e, by omega, fun i hi => ⟨lowc hb this (hc i hi).1, lowc hb this (hc i hi).2⟩⟩
theorem PD.fin {w wf : World} {gb : Nat} {wd : Int} {a : Option Addr} {c : Nat} {xs : List (Int × Int)} {L : Nat} (h : PD w wf gb wd a c xs L) {pa : Option Addr} {ps : List Int} (hR : R1At wf pa ps) (hn : ∀ b off, pa = some ⟨b, off, none⟩ → ps ≠ [] → L ≤ b) :
    CellsAt ((wf.setCell ⟨w.heap.size, 0, none⟩ (.int .i64 wd)).setCell ⟨w.heap.size, 1, none⟩ (.slice a xs.length c)) a xs ∧ R1At ((wf.setCell ⟨w.heap.size, 0, none⟩ (.int .i64 wd)).setCell ⟨w.heap.size, 1, none⟩ (.slice a xs.length c)) pa ps ∧ Below w.heap.size w ((wf.setCell ⟨w.heap.size, 0, none⟩ (.int .i64 wd)).setCell ⟨w.heap.size, 1, none⟩ (.slice a xs.length c)) := by
  obtain ⟨s1, s2⟩ := h.sig.sz
  have hg := h.g
  refine ⟨?_, ?_, (h.sig.hb.setCell (p := ⟨w.heap.size, 0, none⟩) (Nat.le_refl _) _).setCell (p := ⟨w.heap.size, 1, none⟩) (Nat.le_refl _) _⟩
  · by_cases hx : xs = []
    · exact Or.inl hx
    · exact (h.cells.set (bb := w.heap.size) (fun b off e => by have := h.new b off e hx; omega) _).set (bb := w.heap.size) (fun b off e => by have := h.new b off e hx; omega) _
  · rcases hR with q | ⟨b, off, e, hbl, hc⟩
    · exact Or.inl q
    · by_cases hx : ps = []
      · exact Or.inl hx
      · have := hn b off e hx
        exact Or.inr ⟨b, off, e, by simpa using hbl, fun i hi => setc (by omega) (setc (by omega) (hc i hi))⟩
end Go.Proofs.YtnochicpkcjjlaaDoor
