/- Part. -/
import Derived.Test.YthfhphdofgkjhaaGreatLAt
import Derived.Test.YthfhphdofgkjhaaGreatLBe
import Derived.Test.YthfhphdofgkjhaaGreatLBi
set_option maxHeartbeats 4000000
set_option linter.unusedVariables false
namespace Go.Proofs.YthfhphdofgkjhaaGreat
variable{FinP:Frame->World->Prop}{X:FuncId->Prop}{wd:Int}{gl gs:List (Int × Int)}{bs l0:List (Nat × Obj)}{cap:Nat}{Kc:Nat->Prop}{ga:Option Addr}{w:World}
section
open Go Go.Conc Go.ConcN Go.RowKit Go.Conc.Lib Go.ConcR.Gen Go.ConcN.Gen
open Go.ConcR (KK wgBlock WgAt stA smA rd wr mk Payload Aside2 DC0)
section
variable{Goal:Machine->Trace->Prop}{c:Frame}{cs:List Frame}
set_option maxRecDepth 100000 in
theorem zly{L:Program}[T:zaB L Tryz.prog][zaB L L](W:Whole L)(B:Bodies L Tryz.prog X)(hX:ziO L X)(hf3:L.funcs[17]?=some Tryz.f17)(hx3:¬ X 17)(hG:zbb Tryz.prog Goal){n:Nat}(hl0:∀ p∈l0,Kc p.1){Shun:Nat->Prop}(hp0:Hp l0 w)(hK0:∀ e,Kc e->e<w.heap.size/\¬ Shun e)(hcl:∀ w,Hp l0 w->Closed Kc w)(hga:zao (zdA Kc) (.slice ga n cap) (.slice ga n cap))(hok:∀ w,Hp l0 w->∀ τ d,Calls L 17 #[.agg #[.int .i64 wd,.slice ga n cap]] (w.frz.tp τ d) fun e _=>e=.returned (.bool false))(hfin:∀ u:World,zb4 (fun e=>e<w.heap.size/\¬ Shun e) w u->zar Tryz.prog Goal Shun (fun _=>False) (G (c.finish (.tuple #[.agg #[.int .i64 0,.slice none 0 0,.slice none 0 0,.slice none 0 0],.bool false])) cs) u) :
  zar Tryz.prog Goal Shun (fun _=>False) (G (Frame.enter Tryz.prog 8 #[.agg #[.int .i64 wd,.slice ga n cap]] .normal) (c::cs)) w:=by
 have hLa:∀(w:World) (o:Obj),(fun _:World=>True) w->(fun _:World=>True) (w.alloc o):=fun _ _ h=>h
 refine zar.way hG (ch:=0) (K:=Kc) (S:=fun _=>False) (l:=l0) (lx:=[]) hp0 (fun p h=>.inl (hl0 p h)) (fun _ h=>by cases h) (fun _ h=>by cases h) (fun _ h=>h.elim) (fun c hc=>⟨(hK0 c (hc.elim id fun x=>x.elim)).1,(hK0 c (hc.elim id fun x=>x.elim)).2,fun h=>h⟩) ?_
 rw[enter_at _ Tryz.func8 rfl]
 walk_nrmf Tryz.f8
 refine zag.sq ?_
 refine zag.rg ?_
 simp only[List.size_toArray,List.length_cons,List.length_nil,Nat.reduceAdd,Nat.zero_add,List.range,List.range.loop]
 refine zag.new hLa rfl rfl (by decide) (V:=fun c=>.pointer (some ⟨c,0,none⟩)) (obj:=.cells #[.int .i64 wd,.slice ga n cap] 25) (fun w hp=>by go_simp) (fun _ w hp e he=>by simp[go_sem] at he) fun bg hK_bg hS_bg=>?_
 walk_nrm
 refine zag.new hLa rfl rfl (by decide) (V:=fun c=>.pointer (some ⟨c,0,none⟩)) (obj:=.cells #[.int .i64 0,.slice none 0 0,.slice none 0 0,.slice none 0 0] 30) (fun w hp=>by go_simp) (fun _ w hp e he=>by simp[go_sem] at he) fun bs hK_bs hS_bs=>?_
 walk_nrm
 refine zag.val rfl rfl (by decide) (v:=.bool false) (fun w hp=>by go_simp) (fun _ w hp e he=>by simp[go_sem] at he) ?_
 walk_nrm
 refine zag.re ?_
 refine zag.sq ?_
 refine zag.sq ?_
 refine zag.rg ?_
 simp only[List.size_toArray,List.length_cons,List.length_nil,Nat.reduceAdd,Nat.zero_add,List.range,List.range.loop]
 refine ldG rfl rfl (by decide) rfl rfl (mcm mcs) ?_
 walk_nrm
 have hcl1:∀ w,Hp ((bs,.cells #[.int .i64 0,.slice none 0 0,.slice none 0 0,.slice none 0 0] 30)::(bg,.cells #[.int .i64 wd,.slice ga n cap] 25)::l0) w->Closed Kc w:=fun w hp=>hcl w fun p h=>hp p (mcm (mcm h))
 refine zag.enter rfl rfl (by decide) (fun w=>run_call_body rfl Tryz.func17 rfl rfl) (fun w=>events_call_body rfl Tryz.func17 rfl rfl _) ?_
 walk_nrm
 refine zag.callv (Kc:=Kc) (Lv:=fun _=>False) W B (fun _ _ _ _=>trivial) (fun _ _ _ h=>h.elim) hX hf3 rfl hx3 (by kernel_rfl) (v0:=.bool false) (fun _ _ h=>zbv h) (fun _ h=>h) hcl1 (zax _ hga) (fun w hp=>hok w fun p h=>hp p (mcm (mcm h))) fun S1=>?_
 simp only[Frame.finish_at]
 walk_nrm
 refine zag.val rfl rfl (by decide) (v:=.bool true) (fun w hp=>by go_simp) (fun _ w hp e he=>by simp[go_sem] at he) ?_
 walk_nrm
 refine zag.re ?_
 refine zag.ctl rfl (fun _=>stepG_cond (t:=true) rfl) ?_
 simp only[↓reduceIte]
 refine zag.sq ?_
 refine zag.rg ?_
 simp only[List.size_toArray,List.length_cons,List.length_nil,Nat.reduceAdd,Nat.zero_add,List.range,List.range.loop]
 refine zag.val rfl rfl (by decide) (v:=.agg #[.int .i64 0,.slice none 0 0,.slice none 0 0,.slice none 0 0]) (fun w hp=>by go_simp) (fun _ w hp e he=>by simp[go_sem] at he) ?_
 walk_nrm
 refine zag.put (l':=[(bs,.cells #[.int .i64 0,.slice none 0 0,.slice none 0 0,.slice none 0 0] 30)]) (c:=bs) (obj:=.cells #[.int .i64 0,.slice none 0 0,.slice none 0 0,.slice none 0 0] 30) rfl rfl (by decide) (.inl (.inr rfl)) (fun _ _ _ h=>h) (fun w hp=>⟨_,zeq (ty:=30) (cells:=#[.int .i64 0,.slice none 0 0,.slice none 0 0,.slice none 0 0]) rfl rfl rfl (hp.at mcs) zda rfl (by simp[Value.oneCell']),(zas (hp.at mcs)).1,(zas (hp.at mcs)).2⟩) (fun _ w hp e he=>?_) (fun p hp=>?_) ?_
 ·obtain⟨q,rfl⟩:=zgw (ty:=30) (cells:=#[.int .i64 0,.slice none 0 0,.slice none 0 0,.slice none 0 0]) rfl rfl rfl (hp.at mcs) zda rfl (by simp[Value.oneCell']) e he
  exact Or.inl ⟨_,_,rfl,Or.inl (.inl (.inr rfl))⟩
 ·rcases List.mem_cons.1 hp with rfl|hp
  ·exact .inl rfl
  ·cases hp
 walk_nrm
 refine zag.val rfl rfl (by decide) (v:=.bool false) (fun w hp=>by go_simp) (fun _ w hp e he=>by simp[go_sem] at he) ?_
 walk_nrm
 refine zag.re ?_
 refine zag.ctl rfl (fun _=>stepG_ret') ?_
 refine zag.leave (v:=.tuple #[.agg #[.int .i64 0,.slice none 0 0,.slice none 0 0,.slice none 0 0],.bool false]) rfl rfl Tryz.func8 (fun w hp=>?_) (fun hl w hp e he=>?_) ?_
 ·have c0:=hp.cell mcs 0 rfl
  have c1:=hp.cell mcs 1 rfl
  have c2:=hp.cell mcs 2 rfl
  have c3:=hp.cell mcs 3 rfl
  simp[results,Tryz.results8,go_sem,c0,c1,c2,c3]
 ·have c0:=hp.cell mcs 0 rfl
  have c1:=hp.cell mcs 1 rfl
  have c2:=hp.cell mcs 2 rfl
  have c3:=hp.cell mcs 3 rfl
  simp[results,Tryz.results8,go_sem,c0,c1,c2,c3] at he
  rcases he with rfl|rfl|rfl|rfl
  all_goals exact zau hl mcs _
 refine zag.stop fun hl3 w3 hp3 _ hlt3=>?_
 intro hsz3 hnew3 hx3 hKS3 _ hkept3 ht3 ho3 hu3
 exact hfin w3 ⟨fun e he=>hkept3 e he.1 (fun h=>h),ht3,ho3,hu3,hsz3⟩
end
def zq4(wd:Int)(gl:List (Int × Int)):Nat->Value->List (Nat × Obj)->Prop:=fun k x bs =>
 (x=.slice none 0 0/\Sp.zaH wd gl (k:Int)=[]/\bs=[])\/∃ b C,x=.slice (some ⟨b,0,none⟩) (Sp.zaH wd gl (k:Int)).length C/\0<(Sp.zaH wd gl (k:Int)).length/\(Sp.zaH wd gl (k:Int)).length<=C/\C<=maxLen/\bs=[(b,.cells (zge (Sp.zaH wd gl (k:Int)) C) 3)]
theorem zq4.slice{k:Nat}{x:Value}(h:zq4 wd gl k x bs):∃ xa xn xc,x=.slice xa xn xc:=by
 rcases h with ⟨e,_⟩|⟨b,C,e,_⟩
 ·exact⟨_,_,_,e⟩
 ·exact⟨_,_,_,e⟩
def zqk(wd:Int)(gl:List (Int × Int)):Nat->World->Value->World->Prop:=fun k w0 v wl=>zdy wl w0.heap.size 3 v (Sp.zaH wd gl (k:Int))
theorem ziN(xs:List Int)(C:Nat):∀ i (h:i<(zge xs C).size),∃ n,(zge xs C)[i]=.int .i64 n:=by
 intro i h
 unfold zge at h ⊢
 rw[Array.getElem_append]
 split
 ·rename_i h'
  simp[zdX]
 ·simp
theorem zqM(k:Nat)(w0:World)(v v':Value)(R:BR)(wl w₁:World)(hp:zqk wd gl k w0 v wl)(hv:zao R v v')(hw:zbe w0.heap.size R wl w₁):∃ bs,zq4 wd gl k v' bs/\Hp bs w₁/\∀ p∈bs,zbA w0.heap.size R p.1:=by
 rcases hp with ⟨rfl,he⟩|⟨g,C,rfl,hg,h1,h2,h3,hc⟩
 ·cases hv with
  | nilSlice _ _=>exact⟨[],.inl ⟨rfl,he,rfl⟩,(fun p hp=>by cases hp),(fun p hp=>by cases hp)⟩
 ·obtain⟨⟨c,o,s⟩,rfl,had⟩:=zao.slice_at hv (by omega)
  ·skip
   obtain⟨q1,q2,q3⟩:=had
   simp only at q1 q2 q3
   subst q2
   subst q3
   obtain⟨ob,ob',e1,e2,ho⟩:=hw.blk g c q1
   rw[hc] at e1
   cases e1
   cases ho with
   | cells hr _ hf =>
    have hf':=hf (by omega)
    subst hf'
    have e:=zji hr.1 hr.2 (ziN _ _)
    subst e
    exact⟨_,.inr ⟨c,C,rfl,h1,h2,h3,rfl⟩,fun p hp=>by simp at hp;subst hp;exact e2,fun p hp=>by simp at hp;subst hp;exact⟨g,q1,hg⟩⟩
   | other hj _=>cases hj
def zbX(wd:Int)(gl:List (Int × Int)):World->Value->World->Prop:=fun w0 v wl=>∃ g,v=.agg #[.int .i64 wd,.slice (some ⟨g,0,none⟩) gl.length gl.length]/\w0.heap.size<=g/\wl.heap[g]?=some (.cells (Sp.flat gl).toArray 64)
def zgh(wd:Int)(gl:List (Int × Int)):Value->List (Nat × Obj)->Prop:=fun v bs=>∃ b,v=.agg #[.int .i64 wd,.slice (some ⟨b,0,none⟩) gl.length gl.length]/\bs=[(b,.cells (Sp.flat gl).toArray 64)]
theorem zhV(gl:List (Int × Int)):∀ i (h:i<(Sp.flat gl).toArray.size),∃ n,(Sp.flat gl).toArray[i]=.int .i64 n:=by
 intro i h
 have hl:=Sp.zeV gl
 simp at h
 have hi:i / 2<gl.length:=by omega
 obtain⟨h1,h2⟩:=Sp.zg7 gl (i / 2) hi
 have e:i=i / 2 * 2\/i=i / 2 * 2+1:=by omega
 rcases e with e|e
 ·rw[<- e] at h1
  rw[List.getElem?_eq_getElem h] at h1
  exact⟨_,by simpa using Option.some.inj h1⟩
 ·rw[<- e] at h2
  rw[List.getElem?_eq_getElem h] at h2
  exact⟨_,by simpa using Option.some.inj h2⟩
theorem zfH{B g:Nat}(h:Sp.Own w B (.slice (some ⟨g,0,none⟩) gl.length gl.length) gl):B<=g/\w.heap[g]?=some (.cells (Sp.flat gl).toArray 64):=by
 rcases h.2 with ⟨q,_⟩|⟨g',cap,cur,q,hB,hg,_,_,hs,ht⟩
 ·simp at q
 ·simp only[Value.slice.injEq,Option.some.injEq,Addr.mk.injEq,and_true,true_and] at q
  obtain⟨rfl,rfl⟩:=q
  refine⟨hB,?_⟩
  rw[hg]
  have e:cur.toList=Sp.flat gl:=by
   rw[<- ht,List.take_of_length_le (by simp[hs])]
  rw[<- e]
theorem zoq(hpos:0<gl.length)(w0:World)(v v':Value)(R:BR)(wl w₁:World)(hp:zbX wd gl w0 v wl)(hv:zao R v v')(hw:zbe w0.heap.size R wl w₁):∃ bs,zgh wd gl v' bs/\Hp bs w₁/\∀ p∈bs,zbA w0.heap.size R p.1:=by
 obtain⟨g,rfl,hg,hc⟩:=hp
 cases hv with
 | agg h1 h2 =>
  rename_i cc'
  have hs:cc'.size=2:=by rw[<- h1];rfl
  have q0:=h2 0 (by simp) (by omega)
  have q1:=h2 1 (by simp) (by omega)
  have e0:=zcf q0
  obtain⟨b,e1,hb⟩:∃ b,cc'[1]'(by omega)=.slice (some ⟨b,0,none⟩) gl.length gl.length/\R g b:=by
   have q1':zao R (.slice (some ⟨g,0,none⟩) gl.length gl.length) (cc'[1]'(by omega)):=q1
   revert q1'
   generalize cc'[1]'(by omega)=z
   intro q1'
   obtain⟨⟨c,o,s⟩,rfl,r1,r2,r3⟩:=zao.slice_at q1' hpos
   simp only at r1 r2 r3
   subst r2
   subst r3
   exact⟨c,rfl,r1⟩
  obtain⟨ob,ob',f1,f2,ho⟩:=hw.blk g b hb
  rw[hc] at f1
  cases f1
  cases ho with
  | cells hr _ hf =>
   have hf':=hf (by omega)
   subst hf'
   have e:=zji hr.1 hr.2 (zhV _)
   subst e
   refine⟨_,⟨b,congrArg Value.agg (Array.ext (by simp[hs]) fun i hi1 hi2=>?_),rfl⟩,fun p hp=>by simp at hp;subst hp;exact f2,fun p hp=>by simp at hp;subst hp;exact⟨g,hb,hg⟩⟩
   have:i=0\/i=1:=by simp at hi2;omega
   rcases this with rfl|rfl
   ·exact e0
   ·exact e1
  | other hj _=>cases hj
section
variable{Goal:Machine->Trace->Prop}{Shun:Nat->Prop}{c:Frame}{cs:List Frame}
set_option maxRecDepth 100000 in
theorem zoB(hG:zbb Tryz.prog Goal){W H:Nat}(hok:Sp.okG (W:Int) gs=true)(hW:1<=W/\W<=5)(hH:1<=H/\H<=5)(el:gs.length=W * H)(hHd:gs.length / W=H)(hHI:(gs.length:Int) / (W:Int)=(H:Int))(hl0:∀ p∈l0,Kc p.1)(hcl:∀ w,Hp l0 w->Closed Kc w)(hKl:∀ c,Kc c->∃ p∈l0,p.1=c)(hga:zao (zdA Kc) (.slice ga gs.length cap) (.slice ga gs.length cap))(hC:∀ w,Hp l0 w->∀ τ d,Sp.zai (w.frz.tp τ d) ga gs)(w:World)(hp0:Hp l0 w)(hKc:∀ c,Kc c->c<w.heap.size/\¬ Shun c)(hfin:∀(u:World) (bo:Nat) (xs:Nat->Value) (bsf:Nat->List (Nat × Obj)),zb4 (fun e=>e<w.heap.size/\¬ Shun e) w u->w.heap.size<=bo->u.heap[bo]?=some (.cells (Array.ofFn fun k:Fin (2 * (W+H))=>xs k) 27) ->
   (∀ k,k<2 * (W+H)->zq4 (W:Int) gs k (xs k) (bsf k)/\Hp (bsf k) u/\∀ p∈bsf k,w.heap.size<=p.1/\p.1≠bo)->(∀ k k' p p',k<2 * (W+H)->k'<2 * (W+H)->p∈bsf k->p'∈bsf k'->p.1=p'.1->k=k') ->
   ∀ Shun':Nat->Prop,(∀ e,Shun' e->Shun e\/w.heap.size<=e)->¬ Shun' bo->(∀ k,k<2 * (W+H)->∀ p∈bsf k,¬ Shun' p.1)->zar Tryz.prog Goal Shun' (fun _=>False) (G (c.finish (.slice (some ⟨bo,0,none⟩) (2 * (W+H)) (2 * (W+H)))) cs) u) :
  zar Tryz.prog Goal Shun (fun _=>False) (G (Frame.enter Tryz.prog 20 #[.agg #[.int .i64 (W:Int),.slice ga gs.length cap],.func (.func 21) #[] #[]] .normal) (c::cs)) w:=by
 haveI:Payload:=⟨0⟩
 obtain⟨W1,W5⟩:=hW
 obtain⟨H1,H5⟩:=hH
 have hn25:gs.length<=25:=by rw[el];exact Nat.le_trans (Nat.mul_le_mul W5 H5) (by omega)
 have hM:Sp.zcl (W:Int) gs=((2 * (W+H):Nat):Int):=by rw[Sp.zcz hok hHI];omega
 have hside:Sp.zbM (W:Int) (H:Int) (gs.length:Int)=#[.int .i64 ((sF W H 0:Nat):Int),.int .i64 (W:Int),.int .i64 0,.int .i64 1,.int .i64 2,.int .i64 0,.int .i64 ((sF W H 1:Nat):Int),.int .i64 (H:Int),.int .i64 ((W:Int) - 1),.int .i64 (W:Int),.int .i64 3,.int .i64 1,.int .i64 ((sF W H 2:Nat):Int),.int .i64 (W:Int),.int .i64 ((gs.length:Int) - 1),.int .i64 (-1),.int .i64 0,.int .i64 2,.int .i64 ((sF W H 3:Nat):Int),.int .i64 (H:Int),.int .i64 ((gs.length:Int) - 1 - (W:Int)+1),.int .i64 (-(W:Int)),.int .i64 1,.int .i64 3]:=by
  simp[Sp.zbM,sF]
 have hhas:∀(f m s o i u:Int),0<=f/\f<=100->0<=m/\m<=100->∀(k:Nat) (w:World),Calls SqN.prog 81 #[.agg #[.int .i64 f,.int .i64 m,.int .i64 s,.int .i64 o,.int .i64 i,.int .i64 u],.int .i64 k] w fun e _=>e=.returned (.bool (decide (f<=k/\(k:Int)<f+m))) :=
  fun f m s o i u h1 h2 k w=>(Sp.zek f m s o i u k h1 h2 _ rfl w).mono fun e w' h=>h.1
 refine R2.zjD (L:=SqN.prog) (X:=fun _=>false=true) (f0:=sF W H) (e0:=sE W H) (Post:=zqk (W:Int) gs) (RowP:=zq4 (W:Int) gs) (many:=2 * (W+H)) hG SqN.whole SqN.bodies (fun _ h=>by cases h) SqN.func17 (fun h=>by cases h) SqN.func42 (fun h=>by cases h) SqN.func43 (fun h=>by cases h) hl0 hcl hga
  (fun w hp τ d=>((Sp.zaw (W:Int) ga cap gs _ (hC w hp τ d) (by omega)).mono fun e w' h=>by rw[h.1,hok]))
  (fun w hp τ d=>((Sp.zcU (W:Int) ga cap gs _ (hC w hp τ d) (by omega)).mono fun e w' h=>by rw[h.1,hM]))
  (fun w hp τ d=>((Sp.zb2 W H ga gs.length cap _ ⟨W1,W5⟩ ⟨H1,H5⟩ hn25 hHd).mono fun e w' h=>by rw[h.1,hside]))
  SqN.func81 (fun h=>by cases h) SqN.func21 Tryz.func21 rfl rfl (fun h=>by cases h) (by kernel_rfl) ?_ ?_ hKl ?_ ?_ ?_ ?_ ?_ ?_ ?_ ?_ ?_ ?_ ?_ ?_ ?_
  (fun k hk w hp τ d=>((Sp.zel (W:Int) ga cap gs _ (hC w hp τ d) (by omega) (k:Int)).mono fun e w' ⟨v,h1,h2,_,_⟩=>⟨_,h1,(by have h3:=h2;rw[show (w.frz.tp τ d).heap.size=w.heap.size from zdN w] at h3;exact h3:zqk (W:Int) gs k w v w')⟩)) (fun _ _ _ _ _ _ h=>h) zqM (fun k x bs h=>h.slice) ?_ (by omega) w hp0 hKc hfin
 ·exact ziy W H
 ·simp[sumTo,sF,sE];omega
 ·simp[sF,sE]
 ·omega
 ·exact hhas _ _ _ _ _ _ (by simp[sF]) (by omega)
 ·simp[sF,sE]
 ·omega
 ·exact hhas _ _ _ _ _ _ (by simp[sF];omega) (by omega)
 ·simp[sF,sE]
 ·omega
 ·exact hhas _ _ _ _ _ _ (by simp[sF];omega) (by omega)
 ·simp[sF,sE]
 ·omega
 ·exact hhas _ _ _ _ _ _ (by simp[sF];omega) (by omega)
 ·intro j hj
  unfold sE
  split <;> try omega
  split <;> try omega
  split <;> omega
 ·intro k hk
  by_cases h1:k<W
  ·exact⟨0,by omega,by simp[sF],by simp[sE];omega⟩
  ·by_cases h2:k<W+H
   ·exact⟨1,by omega,by simp[sF];omega,by simp[sE];omega⟩
   ·by_cases h3:k<W+H+W
    ·exact⟨2,by omega,by simp[sF];omega,by simp[sE];omega⟩
    ·exact⟨3,by omega,by simp[sF];omega,by simp[sE];omega⟩
end
set_option maxRecDepth 100000 in
theorem zpi{c:Frame}{cs:List Frame}{N:Nat}{R:BR}{wl:World}{v v':Value}(hw:zbe N R (wl.tp w.tape w.drawn) w)(hv:zao R v v')(tr:zbZ SqP.prog FinP (Frame.enter SqP.prog 8 #[v] .normal) (c::cs) wl) :
  ∃ wd ga ga' m gl,v=.agg #[.int .i64 wd,.slice ga (List.length gl) m]/\v'=.agg #[.int .i64 wd,.slice ga' gl.length m]/\gl.length<4611686018427387904/\Sp.zai wl ga gl/\zao R (.slice ga gl.length m) (.slice ga' gl.length m):=by
 rw[enter_at _ SqP.func8 SqP.body8,SqP.ntmps8,znT] at tr
 have tr1:zbZ (@Sq.prog Sq.P) FinP ((base 8).at ⟨#[v,undef,undef,undef,undef,undef,undef,undef,undef,undef,undef,undef,undef,undef,undef,undef,undef,undef,undef,undef,undef,undef],[]⟩ [.code (zi3 .skip),.code zgG]) (c::cs) wl:=tr.ctl (fun _ _=>stepG_seq)
 have hrel:∀ n m ad,v.cells[1]?=some (.slice (some ad) n m)->0<n->∃ o,wl.heap[ad.block]?=some o/\∀ x y,o≠.view x y:=by
  intro n m ad hx hn0
  have key:∀ u u',zao R u u'->u=.slice (some ad) n m->∃ o,wl.heap[ad.block]?=some o/\∀ x y,o≠.view x y:=by
   intro u u' hu e
   subst e
   cases hu with
   | slice _ _ had =>
    obtain⟨o,o',e1,_,ho⟩:=hw.blk _ _ had.1
    refine⟨o,e1,fun x y e=>?_⟩
    subst e
    cases ho with
    | other hj _=>cases hj
   | empty _ _=>omega
  cases hv with
  | agg h1 h2 =>
   rename_i cc cc'
   have hx':cc[1]?=some (.slice (some ad) n m):=hx
   obtain⟨hl,e⟩:=gei hx'
   exact key _ _ (h2 1 hl (by rw[<- h1];exact hl)) e
  | _=>simp[Value.cells] at hx
 obtain⟨wd,ga,n,m,rfl,hn62,hcells⟩:=@zmk Sq.P _ _ _ _ _ _ _ Sq.wholeP hrel tr1
 obtain⟨ga',rfl,hgr⟩:∃ ga',v'=.agg #[.int .i64 wd,.slice ga' n m]/\zao R (.slice ga n m) (.slice ga' n m):=by
  cases hv with
  | agg h1 h2 =>
   rename_i cc'
   have hs:cc'.size=2:=by rw[<- h1];rfl
   have q0:=h2 0 (by simp) (by omega)
   have q1:=h2 1 (by simp) (by omega)
   have e0:=zcf q0
   have e1:∃ ga',cc'[1]'(by omega)=.slice ga' n m:=by
    have q1':zao R (.slice ga n m) (cc'[1]'(by omega)):=q1
    revert q1'
    generalize cc'[1]'(by omega)=z
    intro q1'
    cases q1' with
    | slice _ _ _=>exact⟨_,rfl⟩
    | nilSlice _ _=>exact⟨_,rfl⟩
    | empty _ _=>exact⟨_,rfl⟩
   obtain⟨ga',e1⟩:=e1
   refine⟨ga',congrArg Value.agg (Array.ext (by simp[hs]) fun i hi1 hi2=>?_),by rw[<- e1];exact q1⟩
   have:i=0\/i=1:=by simp at hi2;omega
   rcases this with rfl|rfl
   ·exact e0
   ·exact e1
 obtain⟨gl,hgl,hCl⟩:=zkZ hcells
 subst hgl
 exact⟨wd,ga,ga',m,gl,rfl,rfl,hn62,hCl,hgr⟩
