/- Of the proof: short names. -/
import Derived.Below
namespace Go.Proofs.YthfhlgdeghnggaaGreat
theorem mcs {α : Type} {a : α} {l : List α} : a ∈ a :: l := List.mem_cons_self ..
theorem mcm {α : Type} {a b : α} {l : List α} (h : a ∈ l) : a ∈ b :: l := List.mem_cons_of_mem _ h
theorem gei {α : Type} {xs : Array α} {i : Nat} {b : α} (h : xs[i]? = some b) : ∃ h : i < xs.size, xs[i] = b := Array.getElem?_eq_some_iff.1 h
theorem rgs : (∀ l : List Go.Oper, l.toArray.size = l.length) ∧ (∀ (a : Go.Oper) l, (a :: l).length = l.length + 1) ∧ ([] : List Go.Oper).length = 0 ∧ (∀ n, 0 + n = n) ∧ (∀ n, List.range n = List.range.loop n []) ∧ (∀ l, List.range.loop 0 l = l) ∧ ∀ n l, List.range.loop (n + 1) l = List.range.loop n (n :: l) := ⟨fun _ => rfl, fun _ _ => rfl, rfl, Nat.zero_add, fun _ => rfl, fun _ => rfl, fun _ _ => rfl⟩
theorem asl : (∀ (l : List Go.Value) i v, l.toArray.setIfInBounds i v = (l.set i v).toArray) ∧ (∀ (a : Go.Value) l v, (a :: l).set 0 v = v :: l) ∧ ∀ (a : Go.Value) l n v, (a :: l).set (n + 1) v = a :: l.set n v := ⟨fun _ _ _ => List.setIfInBounds_toArray .., fun _ _ _ => rfl, fun _ _ _ _ => rfl⟩
theorem nll {a b c : Nat} (h : a < b) (h' : b ≤ c) : a < c := Nat.lt_of_lt_of_le h h'
abbrev J (x : Int) : Go.Value := .int .i64 x
abbrev O (b i : Nat) : Go.Addr := ⟨b, i, none⟩
abbrev xA (b : Nat) : Option Go.Addr := some ⟨b, 0, none⟩
abbrev Lp : Type := List (Int × Int)
abbrev xB (w : Go.World) (v : Go.Value) : Go.Ending → Go.World → Prop := fun e w' => e = .returned v ∧ Go.RowKit.Below w.heap.size w w'
abbrev xC (w : Go.World) (i : Nat) : Go.Addr := ⟨w.heap.size, i, none⟩
abbrev xD (w : Go.World) (k i : Nat) : Go.Addr := ⟨w.heap.size + k, i, none⟩
abbrev xE (w w' : Go.World) : Prop := Go.RowKit.Below w.heap.size w w'
abbrev xF : Array Go.Value := #[.int .i64 0, .slice none 0 0, .slice none 0 0, .slice none 0 0]
abbrev xG (x : Int) (a : Option Go.Addr) (n c : Nat) : Array Go.Value := #[.int .i64 x, .slice a n c]
abbrev xH (x : Int) (a : Option Go.Addr) (n c : Nat) (b : Option Go.Addr) (m d : Nat) (e : Option Go.Addr) (k f : Nat) : Array Go.Value := #[.int .i64 x, .slice a n c, .slice b m d, .slice e k f]
theorem _root_.Go.RowKit.Hid.o {p : Prop} (h : Go.RowKit.Hid p) : p := h
abbrev Np : Type := Nat->Prop
abbrev Wq : Type := Go.World->Prop
abbrev Od : Type := Option Go.Addr
abbrev Le : Type := List (Int × Int × Int)
theorem qa {P : Prop} (h : P := by have:=HN.o;omega) : P := h
theorem qc {P : Prop} (h : P := by have:=HN.out;omega) : P := h
theorem qe {P : Prop} (h : P := by simp[intOf];omega) : P := h
theorem qg {P : Prop} (h : P := by omega) : P := h
theorem qh {P : Prop} (h : P := by kernel_rfl) : P := h
theorem qj {P : Prop} (h : P := by decide) : P := h
theorem ql {P : Prop} (h : P := by simp[go_sem]) : P := h
theorem qm {P : Prop} (h : P := by simp) : P := h
theorem qn {P : Prop} (h : P := by simp;omega) : P := h
theorem qo {P : Prop} (h : P := by simp[Value.oneCell']) : P := h
theorem qp {P : Prop} (h : P := by assumption) : P := h
theorem qq {P : Prop} (h : P := by go_simp) : P := h
theorem qs {P : Prop} (h : P := by unfold maxLen;omega) : P := h
theorem qu {P : Prop} (h : P := by simp <;> omega) : P := h
theorem bel {B : Nat} {w w' : Go.World} (h : Go.RowKit.Below B w w' := by repeat (first | exact Go.RowKit.Below.refl _ _ | refine Go.RowKit.Below.alloc ?_ (by first | exact Nat.le_refl _ | (simp; done) | (simp; omega)) _ | refine Go.RowKit.Below.drew ?_ | refine Go.RowKit.Below.setCell ?_ (by first | exact Nat.le_refl _ | (simp; done) | (simp; omega)) _)) : Go.RowKit.Below B w w' := h
end Go.Proofs.YthfhlgdeghnggaaGreat
