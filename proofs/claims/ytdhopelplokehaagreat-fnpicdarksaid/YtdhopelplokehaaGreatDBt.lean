/- Of the proof: Qp -/
import Derived.Test.YtdhopelplokehaaGreatRows
import Derived.ProofKit
import Derived.OpenShut
import Derived.Carry
import Derived.Test.YtdhopelplokehaaGreatDBs
namespace Go.Proofs.YtdhopelplokehaaGreat
section
open Go.ChangeShapes Go.WideShapes Go.ChangeAt Go.RowKit
theorem own:ownKnob Tryz.prog.godebug=none:=by kernel_rfl
theorem laidOut:laidOutB Tryz.prog=true:=by kernel_rfl
theorem cellsU8:Tryz.prog.cellsOf 5=1:=by kernel_rfl
set_option maxRecDepth 20000 in
theorem open_bytes {H:Type} {enc:TypeId × Value->H} {W:World} {base:Nat} {v:Value} {d:DataW H} {p:List MemPlace}
  (hv:Value.okWide Tryz.prog W .any base 22 v) (h:DataW.Trod enc Tryz.prog W 0 (fun _=>true) true 22 v d p) :
  ∃ a n cap f,v=.slice a n cap/\Sp.BytesAt W a n f/\(n<=cap/\cap<=9223372036854775807):=by
 obtain ⟨a0,len,cap,rfl⟩:=okWide_slice Tryz.underlying22 hv
 obtain ⟨fuel,hf⟩:=h
 rcases open_ints Tryz.underlying22 Tryz.underlying5 cellsU8 hf with ⟨hcs,_⟩ | ⟨x,l,c,zs,hcs,_,hl,hm,hz,_,hcell,hwz⟩
 ·simp [Value.cells] at hcs
  obtain ⟨rfl,rfl,rfl⟩:=hcs
  exact ⟨none,0,0,fun _=>0,rfl,⟨fun _=>by simp,Or.inl rfl⟩,by omega⟩
 ·simp [Value.cells] at hcs
  obtain ⟨rfl,rfl,rfl⟩:=hcs
  have hzl:zs.length=cap:=by simpa using hz
  refine ⟨some x,len,cap,fun i=>zs.getD i 0,rfl,⟨fun i=>?_,?_⟩,hl,by unfold maxLen at hm; omega⟩
  ·by_cases hi:i < zs.length
   ·have:=hwz zs[i] (List.getElem_mem hi)
    simp [Lit.wf,IntKind.min,IntKind.max,IntKind.signed,IntKind.bits] at this
    simp [hi]
    omega
   ·simp [hi]
  ·by_cases h0:len=0
   ·exact Or.inl h0
   ·obtain ⟨b,off,spot⟩:=x
    have hs:spot=none:=by simpa [Addr.add] using World.cell?_spot (hcell 0 (by omega))
    subst hs
    have hadd:∀ j,(⟨b,off,none⟩:Addr).add j=⟨b,off + j,none⟩:=by intro j; unfold Addr.add; split <;> simp_all
    refine Or.inr ⟨b,off,rfl,?_,fun i hi=>?_⟩
    ·have h1:=hcell 0 (by omega)
     rw [hadd] at h1
     exact World.block_lt_of_cell? W _ h1
    ·have h1:=hcell i (by omega)
     rw [hadd] at h1
     exact h1
set_option maxRecDepth 100000 in
theorem bytes_block {W:World} {base n cap:Nat} {ad:Addr} (hv:Value.okWide Tryz.prog W .any base 22 (.slice (some ad) n cap)):∃ c e f,W.heap[ad.block]?=some (.cells c e f):=by
 unfold Value.okWide at hv
 rw [Tryz.underlying22] at hv
 have hk:Cell.okWide Tryz.prog W .any base 22 (.slice (some ad) n cap):=hv
 unfold Cell.okWide at hk
 rw [Tryz.underlying22] at hk
 unfold Cell.ok at hk
 rw [Tryz.underlying22] at hk
 obtain ⟨_,_,_,_,row,cells,hs,_⟩:=hk
 unfold World.shape? at hs
 cases hb:W.heap[ad.block]? with
 | none=>rw [hb] at hs; cases hs
 | some o =>
  rw [hb] at hs
  cases o with
  | cells c e f=>exact ⟨c,e,f,rfl⟩
  | _=>cases hs
theorem bytes_frz {w:World} {a:Option Addr} {n:Nat} {f:Nat->Int} (h:Sp.BytesAt w a n f) (τ:Nat->Question->Nat) (d:Nat):Sp.BytesAt (w.frz.tp τ d) a n f:=by
 obtain ⟨h1,h2⟩:=h
 refine ⟨h1,?_⟩
 rcases h2 with h | ⟨b,off,rfl,hl,hc⟩
 ·exact .inl h
 ·refine .inr ⟨b,off,rfl,?_,fun i hi=>?_⟩
  ·show b < w.frz.heap.size
   rw [frz_size]
   exact hl
  ·have q:=frz_cell w ⟨b,off + i,none⟩
   rw [hc i hi] at q
   exact q
theorem rrel_one {R:BR} {x:Value} (h:VRel R x x):RRel R #[x] #[x]:=RRel.one h
end
end Go.Proofs.YtdhopelplokehaaGreat
