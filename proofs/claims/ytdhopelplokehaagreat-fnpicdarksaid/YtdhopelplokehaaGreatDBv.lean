/- 'laws.FnPicDark' returns true for all codes, on every schedule of its goroutines: without lamps it is dark, and light goes from sight to sight as it went. No condition. -/
import Derived.Conc.LeavingOf
import Derived.Test.YtdhopelplokehaaGreatDBr
import Derived.Test.YtdhopelplokehaaGreatDBt
import Derived.Test.YtdhopelplokehaaGreatDBu
set_option linter.unusedVariables false
namespace Go.Proofs.YtdhopelplokehaaGreat
namespace LwPicDark
open Go.ChangeShapes Go.WideShapes Go.ChangeAt Go.RowKit Go.Conc
theorem runs (a:Option Addr) (n cap:Nat) (f:Nat->Int) (W:World) (hC:Sp.BytesAt W a n f) (hm:n<=cap/\cap<=9223372036854775807) (hb:∀ ad,a=some ad->∃ c e f,W.heap[ad.block]?=some (.cells c e f)) :
  ∃ m last o w' t',runNT Tryz.prog (m + 1) (solo (G (Frame.enter Tryz.prog 5 #[.slice a n cap] .normal) []) W) #[]=(.ended o w',t')/\runN Tryz.prog m (solo (G (Frame.enter Tryz.prog 5 #[.slice a n cap] .normal) []) W)=.next last /\
   step Tryz.prog last=.ended o w'/\Go.Conc.Good Tryz.prog (fun v w'=>v=.bool true/\Below W.heap.size W w') last o w' t':=by
 refine law_good (L:=SqP.prog) (M:=Tryz.prog) (K:=fun b=>∃ ad,a=some ad/\ad.block=b) (PostL:=fun v _=>v=.bool true) SqP.whole SqP.bodies SqP.func5 rfl (by simp [Sq.X]) (by kernel_rfl) (by kernel_rfl) ?_ ?_ (xok_all _) (fun _ _ _ _ h=>h) (fun τ d=>?_) (fun R v v' wl w' hv h hB=>?_)
 ·rintro b ⟨ad,e,rfl⟩
  obtain ⟨c,e2,f,hx⟩:=hb ad e
  exact .inl ⟨c,e2,f,hx,no_other⟩
 ·refine rrel_one ?_
  cases a with
  | none=>exact .nilSlice _ _
  | some ad=>exact .slice _ _ ⟨⟨rfl,ad,rfl,rfl⟩,rfl,rfl⟩
 ·exact (Sp.picDark_any a n cap f _ (bytes_frz hC τ d) hm).mono fun e w' h=>⟨_,h.1,rfl⟩
 ·subst h
  exact ⟨vrel_bool hv,hB⟩
set_option maxRecDepth 100000 in
theorem lifted (os:Os) (started:os.Started) (H:Type) (enc:TypeId × Value->H) :
  ReturnsInLeavingWide {} Tryz.checked os 5 .any (Rows.fnPicDarkSpec.pre6 enc Tryz.prog Tryz.f5 Rows.fnPicDarkRow.domain false) (Rows.fnPicDarkSpec.post enc Tryz.prog Tryz.f5 false true false false):=by
 refine returnsInLeavingWide_of_change_sized (C:=Tryz.checked) own started Tryz.func5
  (ChangeSpec.witness6 (enc:=enc) (C:=Tryz.checked) false ⟨#[],#[.slice none 0 0],[]⟩ 8 (by kernel_rfl) (by kernel_rfl) (by kernel_rfl) (by kernel_rfl)) ?_
 intro W base args ds gs before hval0 hW hcnd _ _
 have hval:∀ (j:Nat) t v,Tryz.f5.params[j]?=some t->args[j]?=some v->Value.okWide Tryz.prog W .any base t v:=hval0
 have hW':=hW
 obtain ⟨p,q,hA0,hV,rfl,hfz,hnd⟩:=hW
 have hA:DataW.TrodAll enc Tryz.prog W 0 (fun _=>true) true Tryz.f5.params.toList args.toList ds p:=hA0
 rw [Tryz.params5] at hA hval
 obtain ⟨v0,vs0,d0,ds0,p0,q0,hargs,rfl,rfl,h0,r0⟩:=trodAll_cons hA
 obtain ⟨rfl,rfl,rfl⟩:=trodAll_nil r0
 obtain rfl:args=#[v0]:=by cases args; simp_all
 obtain ⟨rfl,rfl⟩:=trodVars_none hV
 have k0:=h0
 have lt0:∀ x ∈ p0,x.block < W.heap.size:=by obtain ⟨m,hm⟩:=k0; exact DataW.trod_lt m _ _ _ hm
 have hg0:=hval 0 22 v0 rfl rfl
 obtain ⟨a0,n0,cap0,f0,rfl,hC0,hm0⟩:=open_bytes (hval 0 22 v0 rfl rfl) h0
 clear hA0 hval0
 obtain ⟨M,last,o,w9,t9,r1,r2,r3,r4⟩:=runs a0 n0 cap0 f0 W hC0 hm0 (fun ad e=>by subst e; exact bytes_block hg0)
 refine ⟨M,last,o,w9,t9,r1,r2,r3,r4.mono fun v ⟨he,bel⟩=>?_⟩
 subst he
 exact ⟨_,_,_,[],_,[],hW',trodAll_mk1 (shut_bool Tryz.underlying4 _),(trodAll_cons_mk (Below.trod laidOut (by kernel_rfl) (of_decide_eq_true (by kernel_rfl)) k0 bel lt0) trodAll_mk0),rfl,bel.frame _,fun h=>by cases h⟩
theorem over:Rows.fnPicDarkRow.holds Tryz.pinned (OpenSpec.ofChange Rows.fnPicDarkSpec) :=
 OpenClaim.holds_of_wide_leaving 5 Tryz.f5 rfl rfl rfl rfl rfl rfl rfl ⟨rfl,rfl,rfl,rfl,rfl⟩ rfl rfl rfl rfl rfl (by kernel_rfl) Tryz.func5 (by kernel_rfl)
  (of_decide_eq_true (by kernel_rfl)) (by unfold Func.isWrapper; first | (rw [if_pos (by decide +kernel)]; kernel_rfl) | (rw [if_neg (by decide +kernel)]; exact ⟨rfl,rfl⟩))
  (fun os started H enc _=>lifted os started H enc)
end LwPicDark
section
theorem lwPicDark:Rows.FnPicDarkSaid:=LwPicDark.over
#print axioms lwPicDark
end
end Go.Proofs.YtdhopelplokehaaGreat
