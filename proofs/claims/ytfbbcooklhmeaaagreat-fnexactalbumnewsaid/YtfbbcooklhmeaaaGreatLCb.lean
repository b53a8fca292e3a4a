/- FnExactAlbumNew: impl.AlbumNew answers as spec.AlbumNew at every grid, on every schedule of its goroutines; writes into no argument; its answer owns its memory. No condition. -/
import Derived.Test.YtfbbcooklhmeaaaGreatRows
import Derived.ProofKit
import Derived.OpenShut
import Derived.Lib.SmallJoins
import Derived.Deep.SlicePairs
import Derived.Carry
import Derived.Conc.LeavingOf
import Derived.Test.YtfbbcooklhmeaaaGreatLBw
import Derived.Test.YtfbbcooklhmeaaaGreatLCa
set_option linter.unusedVariables false
namespace Go.Proofs.YtfbbcooklhmeaaaGreat
variable {vs:List Value} {base:Nat} {W:World}
section
open Go.ChangeShapes Go.WideShapes Go.ChangeAt Go.RowKit Go.Joins Go.Deep
theorem own:ownKnob Tryz.prog.godebug=none:=by kernel_rfl
theorem laidOut:laidOutB Tryz.prog=true:=by kernel_rfl
theorem zpP:Tryz.prog.cellsOf 61=2:=by kernel_rfl
theorem zpQ:Tryz.prog.cellsOf 24=2:=by kernel_rfl
theorem zjR:Tryz.prog.cellsOf 3=1:=by kernel_rfl
theorem zf5 {H:Type} {enc:TypeId × Value->H} {fuel:Nat} {x:DataW H × List MemPlace}
  (h:DataW.trod enc Tryz.prog W 0 (fun _=>true) true fuel 22 vs=some x) :
  ∃ a cap cs,vs=[.slice a (List.length cs) cap]/\Sp.zai W a cs/\cs.length<=9223372036854775807:=by
 rcases open_slice_pairs Tryz.underlying22 Tryz.underlying61 zpP rfl rfl zjR zjR h with ⟨rfl,_⟩ | ⟨a,len,cap,m,n,V0,V1,D0,D1,P0,P1,rfl,_,hl,hm,hmm,_,hc⟩
 ·exact ⟨none,0,[],rfl,Or.inl rfl,by simp⟩
 ·have hm':m=cap:=by simpa using hmm
  have each:∀ i,i < len->∃ q:Int × Int,W.cell? (a.add (i * 2))=some (.int .i64 q.1)/\W.cell? (a.add (i * 2 + 1))=some (.int .i64 q.2):=by
   intro i hi
   obtain ⟨e0,e1,t0,t1⟩:=hc i (by omega)
   obtain ⟨x0,h0,_⟩:=DataW.trod_int Tryz.underlying3 t0
   obtain ⟨x1,h1,_⟩:=DataW.trod_int Tryz.underlying3 t1
   simp only [List.cons.injEq,and_true] at h0 h1
   rw [h0] at e0
   rw [h1] at e1
   exact ⟨(x0,x1),e0,e1⟩
  obtain ⟨q,hq⟩:=choose_lt each
  refine ⟨some a,cap,(List.range len).map q,by simp,?_,by unfold maxLen at hm; simp; omega⟩
  by_cases h0:len=0
  ·subst h0; exact Or.inl rfl
  ·obtain ⟨b,off,spot⟩:=a
   have hs:spot=none:=by simpa [Addr.add] using World.cell?_spot (hq 0 (by omega)).1
   subst hs
   have hadd:∀ j,(⟨b,off,none⟩:Addr).add j=⟨b,off + j,none⟩:=by intro j; unfold Addr.add; split <;> simp_all
   refine Or.inr ⟨b,off,rfl,?_,fun i hi=>?_⟩
   ·have h1:=(hq 0 (by omega)).1
    rw [hadd] at h1
    exact World.block_lt_of_cell? W _ h1
   ·have hi':i < len:=by simpa using hi
    have h1:=hq i hi'
    rw [hadd,hadd] at h1
    have hg:((List.range len).map q).getD i (0,0)=q i:=by simp [hi']
    rw [hg]
    exact h1
set_option maxRecDepth 20000 in
theorem zmI {H:Type} {enc:TypeId × Value->H} {v:Value} {d:DataW H} {p:List MemPlace}
  (hv:Value.okWide Tryz.prog W .any base 24 v) (h:DataW.Trod enc Tryz.prog W 0 (fun _=>true) true 24 v d p) :
  ∃ wd a cap cs,v=.agg #[.int .i64 wd,.slice a (List.length cs) cap]/\Sp.zai W a cs/\cs.length<=9223372036854775807:=by
 obtain ⟨c0,c1,y0,y1,m,rfl,rfl,rfl,hy0,hy1⟩:=open_agg2 Tryz.underlying24 (by kernel_rfl) zpQ hv h
 obtain ⟨wd,e0,_⟩:=DataW.trod_int Tryz.underlying3 hy0
 obtain ⟨a,cap,cs,e1,hc,hm⟩:=zf5 hy1
 simp only [List.cons.injEq,and_true] at e0 e1
 exact ⟨wd,a,cap,cs,by rw [e0,e1],hc,hm⟩
theorem zmi:Tryz.prog.cellTypes Tryz.prog.depth 24=some [3,22]:=by kernel_rfl
set_option maxRecDepth 100000 in
theorem zkM {n cap:Nat} {wd:Int} {ad:Addr} (hv:Value.okWide Tryz.prog W .any base 24 (.agg #[.int .i64 wd,.slice (some ad) n cap])):∃ c e f,W.heap[ad.block]?=some (.cells c e f):=by
 unfold Value.okWide at hv
 rw [Tryz.underlying24] at hv
 obtain ⟨cs,e,_,ts,hts,_,hc⟩:=hv
 cases e
 rw [zmi] at hts
 cases hts
 obtain ⟨u,hu,hk⟩:=hc 1 (.slice (some ad) n cap) rfl
 have hu':u=22:=(Option.some.inj hu).symm
 subst hu'
 unfold Cell.okWide at hk
 rw [Tryz.underlying22] at hk
 unfold Cell.ok at hk
 rw [Tryz.underlying22] at hk
 obtain ⟨_,_,_,_,row,cells,hs,_⟩:=hk
 unfold World.shape? at hs
 cases hb:W.heap[ad.block]? with
 | none=>rw [hb] at hs; cases hs
 | some o =>
  rw [hb] at hs
  cases o with
  | cells c e f=>exact ⟨c,e,f,rfl⟩
  | _=>cases hs
end
section
open Go Go.Conc Go.ConcN
theorem zq8 {L M:Program} {X Y:FuncId->Prop} {N:Nat} (h:∀ f,X f->Y f) (hy:XOk L M Y N):XOk L M X N:=fun F f a a' c c' cs cs' R wl w Sh gs t q sl hX=>hy F f a a' c c' cs cs' R wl w Sh gs t q sl (h f hX)
theorem zqo (N:Nat):XOk SqP.prog Tryz.prog (fun i=>Sq.X i=true) N:=zq8 Sq.one (zqd N)
end
namespace ExAlbumNew
open Go.ChangeShapes Go.WideShapes Go.ChangeAt Go.RowKit Go.Conc
theorem runs (wd:Int) (a:Option Addr) (cap:Nat) (cs:List (Int × Int)) (W:World) (hC:Sp.zai W a cs) (hm:cs.length<=9223372036854775807) (hb:∀ ad,a=some ad->∃ c e f,W.heap[ad.block]?=some (.cells c e f)) :
  ∃ n last o w' t',runNT Tryz.prog (n + 1) (solo (G (Frame.enter Tryz.prog 3 #[.agg #[.int .i64 wd,.slice a cs.length cap]] .normal) []) W) #[]=(.ended o w',t')/\runN Tryz.prog n (solo (G (Frame.enter Tryz.prog 3 #[.agg #[.int .i64 wd,.slice a cs.length cap]] .normal) []) W)=.next last /\
   step Tryz.prog last=.ended o w'/\Go.Conc.Good Tryz.prog (fun v w'=>v=.bool true/\Below W.heap.size W w') last o w' t':=by
 refine zos (L:=SqP.prog) (M:=Tryz.prog) (K:=fun b=>∃ ad,a=some ad/\ad.block=b) (PostL:=fun v _=>v=.bool true) SqP.whole SqP.bodies SqP.func3 rfl (by simp [Sq.X]) (by kernel_rfl) (by kernel_rfl) ?_ ?_ (zqo _) (fun _ _ _ _ h=>h) (fun τ d=>?_) (fun R v v' wl w' hv h hB=>?_)
 ·rintro b ⟨ad,e,rfl⟩
  obtain ⟨c,e2,f,hx⟩:=hb ad e
  exact .inl ⟨c,e2,f,hx,zeP⟩
 ·refine zax wd ?_
  cases a with
  | none=>exact .nilSlice _ _
  | some ad=>exact .slice _ _ ⟨⟨rfl,ad,rfl,rfl⟩,rfl,rfl⟩
 ·exact (Sp.zf6 wd a cap cs _ (zhG hC (fun _ _ _=>rfl) τ d) hm).mono fun e w' h=>⟨_,h.1,rfl⟩
 ·subst h
  exact ⟨zbt hv,hB⟩
set_option maxRecDepth 100000 in
theorem lifted (os:Os) (started:os.Started) (H:Type) (enc:TypeId × Value->H) :
  ReturnsInLeavingWide {} Tryz.checked os 3 .any (Rows.fnExactAlbumNewSpec.pre6 enc Tryz.prog Tryz.f3 Rows.fnExactAlbumNewRow.domain false) (Rows.fnExactAlbumNewSpec.post enc Tryz.prog Tryz.f3 false true false false):=by
 refine returnsInLeavingWide_of_change_sized (C:=Tryz.checked) own started Tryz.func3
  (ChangeSpec.witness6 (enc:=enc) (C:=Tryz.checked) false ⟨#[],#[.agg #[.int .i64 0,.slice none 0 0]],[]⟩ 8 (by kernel_rfl) (by kernel_rfl) (by kernel_rfl) (by kernel_rfl)) ?_
 intro W base args ds gs before hval0 hW hcnd _ _
 have hval:∀ (j:Nat) t v,Tryz.f3.params[j]?=some t->args[j]?=some v->Value.okWide Tryz.prog W .any base t v:=hval0
 have hW':=hW
 obtain ⟨p,q,hA0,hV,rfl,hfz,hnd⟩:=hW
 have hA:DataW.TrodAll enc Tryz.prog W 0 (fun _=>true) true Tryz.f3.params.toList args.toList ds p:=hA0
 rw [Tryz.params3] at hA hval
 obtain ⟨v0,vs0,d0,ds0,p0,q0,hargs,rfl,rfl,h0,r0⟩:=trodAll_cons hA
 obtain ⟨rfl,rfl,rfl⟩:=trodAll_nil r0
 obtain rfl:args=#[v0]:=by cases args; simp_all
 obtain ⟨rfl,rfl⟩:=trodVars_none hV
 have k0:=h0
 have lt0:∀ x ∈ p0,x.block < W.heap.size:=by obtain ⟨m,hm⟩:=k0; exact DataW.trod_lt m _ _ _ hm
 have hg0:=hval 0 24 v0 rfl rfl
 obtain ⟨wd0,a0,cap0,cs0,rfl,hC0,hm0⟩:=zmI (hval 0 24 v0 rfl rfl) h0
 clear hA0 hval0
 obtain ⟨M,last,o,w9,t9,r1,r2,r3,r4⟩:=runs wd0 a0 cap0 cs0 W hC0 hm0 (fun ad e=>by subst e; exact zkM hg0)
 refine ⟨M,last,o,w9,t9,r1,r2,r3,r4.mono fun v ⟨he,bel⟩=>?_⟩
 subst he
 exact ⟨_,_,_,[],_,[],hW',trodAll_mk1 (shut_bool Tryz.underlying4 _),(trodAll_cons_mk (Below.trod laidOut (by kernel_rfl) (of_decide_eq_true (by kernel_rfl)) k0 bel lt0) trodAll_mk0),rfl,bel.frame _,fun h=>by cases h⟩
theorem over:Rows.fnExactAlbumNewRow.holds Tryz.pinned (OpenSpec.ofChange Rows.fnExactAlbumNewSpec) :=
 OpenClaim.holds_of_wide_leaving 3 Tryz.f3 rfl rfl rfl rfl rfl rfl rfl ⟨rfl,rfl,rfl,rfl,rfl⟩ rfl rfl rfl rfl rfl (by kernel_rfl) Tryz.func3 (by kernel_rfl)
  (of_decide_eq_true (by kernel_rfl)) (by unfold Func.isWrapper; first | (rw [if_pos (by decide +kernel)]; kernel_rfl) | (rw [if_neg (by decide +kernel)]; exact ⟨rfl,rfl⟩))
  (fun os started H enc _=>lifted os started H enc)
end ExAlbumNew
section
theorem exAlbumNew:Rows.FnExactAlbumNewSaid:=ExAlbumNew.over
#print axioms exAlbumNew
end
end Go.Proofs.YtfbbcooklhmeaaaGreat
