/- Of the proof: PDw -/
import Derived.Test.YtmmeapmlfopleaaGreatEAy
set_option linter.unusedVariables false
namespace Go.Proofs.YtmmeapmlfopleaaGreat
namespace Sp
open Go.RowKit
attribute [local go_sem ↓] Go.wp_at_zero Go.wp_at_succ
structure DB (w wr : World) (rb L gb : Nat) (wd : Int) (a : Option Addr) (c : Nat) (xs : List (Int × Int)) (P : Nat) : Prop where
 gr : w.grownBy wr (some rb)
 p0 : wr.cell? ⟨w.heap.size, 0, none⟩ = some (.int .i64 0)
 p1 : wr.cell? ⟨w.heap.size, 1, none⟩ = some (.slice none 0 0)
 fp0 : wr.frozen? ⟨w.heap.size, 0, none⟩ = false
 fp1 : wr.frozen? ⟨w.heap.size, 1, none⟩ = false
 g0 : wr.cell? ⟨gb, 0, none⟩ = some (.int .i64 wd)
 g1 : wr.cell? ⟨gb, 1, none⟩ = some (.slice a xs.length c)
 sz : w.heap.size < gb /\ gb < wr.heap.size
 rbw : rb < w.heap.size /\ L <= w.heap.size
 rd : RdQ wr rb L P
 cells : CellsAt wr a xs
 unf : UnF wr a xs
 new : ∀ b off, a = some ⟨b, off, none⟩ -> xs ≠ [] -> w.heap.size < b /\ b ≠ gb
theorem DB.more {w wr : World} {rb L gb : Nat} {wd : Int} {a : Option Addr} {c : Nat} {xs : List (Int × Int)} {P P' : Nat} (h : DB w wr rb L gb wd a c xs P) (hp : P <= P') : DB w wr rb L gb wd a c xs P' :=
 ⟨h.gr, h.p0, h.p1, h.fp0, h.fp1, h.g0, h.g1, h.sz, h.rbw, h.rd.more hp, h.cells, h.unf, h.new⟩
theorem DB.below {w wr w2 : World} {rb L gb : Nat} {wd : Int} {a : Option Addr} {c : Nat} {xs : List (Int × Int)} {P : Nat} (h : DB w wr rb L gb wd a c xs P) (hb : Below wr.heap.size wr w2) : DB w w2 rb L gb wd a c xs P := by
 obtain ⟨s1, s2⟩ := h.sz
 have hz := hb.size
 have hw := h.gr.size
 exact ⟨picksB h.gr hb, keepc hb h.p0, keepc hb h.p1, keepf hb h.p0 h.fp0, keepf hb h.p1 h.fp1, keepc hb h.g0, keepc hb h.g1, by omega, h.rbw, h.rd.below (hb.mono (by have := h.rbw; omega)), h.cells.below hb, h.unf.below h.cells hb, h.new⟩
end Sp
end Go.Proofs.YtmmeapmlfopleaaGreat
