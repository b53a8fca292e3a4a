/- Part. -/
import Derived.Conc.CompanyDraw
import Derived.Test.YtefakaeblcafmaaGreatNAh
set_option maxHeartbeats 4000000
set_option maxRecDepth 100000
set_option linter.unusedVariables false
namespace Go.Proofs.YtefakaeblcafmaaGreat
variable{f:FuncId}{X:FuncId->Prop}{wd:Int}{rs:List (List Nat)}{l0:List (Nat × Obj)}{bc bg bl bs cap n:Nat}{bsf:Nat->List (Nat × Obj)}{Kc Lv Sh Sh0:Nat->Prop}{xs:Nat->Value}{RowP:Nat->Value->List (Nat × Obj)->Prop}{objL:Obj}{ga:Option Addr}{P:Prop}{Q:Value->List (Nat × Obj)->Prop}{u u0:World}{Post:World->Value->World->Prop}
open Tryz
namespace R2
open Go Go.Conc Go.ConcN Go.RowKit Go.Conc.Lib Go.ConcR.Gen Go.ConcN.Gen
open Go.ConcR (KK wgBlock WgAt stA smA rd wr mk Payload Aside2 DC0)
def zsf(RowP:Nat->Value->List (Nat × Obj)->Prop):Nat->(Nat->Prop)->Value->World->Prop:=fun k S v w=>∃ x bs,v=.agg #[.int .i64 k,x]/\RowP k x bs/\Hp bs w/\∀ p∈bs,S p.1
theorem zrk(RowP:Nat->Value->List (Nat × Obj)->Prop):zdC (zsf RowP):=fun _ _ _ _ _ h ⟨x,bs,e,h1,h2,h3⟩=>⟨x,bs,e,h1,fun p hp=>(h p.1 (h3 p hp)).trans (h2 p hp),h3⟩
theorem zfN(h:P:=by
  have hLa:∀(w:World) (o:Obj),(fun _:World=>True) w->(fun _:World=>True) (w.alloc o):=fun _ _ h=>h
  refine zaq.way hG (ch:=0) (K:=Kc) (S:=fun _=>False) (l:=l0) (lx:=[]) hp0 (fun p h=>.inl (hl0 p h)) (fun _ h=>by cases h) (fun _ h=>by cases h) (fun _ h=>h.elim) (fun c hc=>⟨(hKc c (hc.elim id fun x=>x.elim)).1,(hKc c (hc.elim id fun x=>x.elim)).2,fun h=>h⟩) ?_
  rw[enter_at _ hRf rfl]
  simp only[Tryz.f58,Tryz.f37]
  walk_nrm
  refine zag.sq ?_
  refine zag.rg ?_
  simp only[rgs,Nat.reduceAdd]
  refine zag.new hLa rfl rfl qi (V:=fun c=>.pointer (some ⟨c,0,none⟩)) (obj:=.cells #[.int .i64 wd,.slice ga n cap] 25) (fun w hp=>qo) (fun _ w hp e he=>by simp[go_sem] at he) fun bg hK_bg hS_bg=>?_
  walk_nrm
  refine zag.new hLa rfl rfl qi (V:=fun c=>.pointer (some ⟨c,0,none⟩)) (obj:=.cells #[.func (.func fr) #[] #[]] tF) (fun w hp=>qo) (fun _ w hp e he=>by simp[go_sem] at he) fun br hK_br hS_br=>?_
  walk_nrm
  refine zag.va (v:=.slice none 0 0) ?_
  walk_nrm
  refine zag.re ?_
  refine zag.sq ?_
  refine zag.sq ?_
  refine zag.rg ?_
  simp only[rgs,Nat.reduceAdd]
  refine zag.val rfl rfl qi (v:=.agg #[.int .i64 wd,.slice ga n cap]) (fun w hp=>?_) (fun hl w hp e he=>?_) ?_
  ·have c0:=hp.cell (mcm mcs) 0 rfl
   have c1:=hp.cell (mcm mcs) 1 rfl
   go_simp
  ·have c0:=hp.cell (mcm mcs) 0 rfl
   have c1:=hp.cell (mcm mcs) 1 rfl
   simp[go_sem, *] at he
   rcases he with rfl|rfl
   all_goals exact zaG hl (mcm mcs) _
  walk_nrm
  have hcl1:∀ w,Hp ((br,.cells #[.func (.func fr) #[] #[]] tF)::(bg,.cells #[.int .i64 wd,.slice ga n cap] 25)::l0) w->Closed Kc w:=fun w hp=>hcl w fun p h=>hp p (mcm (mcm h))
  refine zag.enter rfl rfl qi (fun w=>run_call_body rfl func34 rfl rfl) (fun w=>events_call_body rfl func34 rfl rfl _) ?_
  walk_nrm
  refine zag.callv (Kc:=Kc) (Lv:=fun _=>False) W B (fun _ _ _ _=>trivial) (fun _ _ _ h=>h.elim) hX hf3 rfl hx3 qh (v0:=.bool true) (fun _ _ h=>zcr h) (fun _ h=>h) hcl1 (zcn _ hga) (fun w hp=>hok w fun p h=>hp p (mcm (mcm h))) fun S1=>?_
  simp only[Frame.finish_at]
  walk_nrm
  refine zag.va (v:=.bool false) ?_
  walk_nrm
  refine zag.re ?_
  refine zag.ctl rfl (fun _=>stepG_cond (t:=false) rfl) ?_
  simp only[Bool.false_eq_true,↓reduceIte]
  refine zag.ctl rfl (fun _=>stepG_skip) ?_
  refine zag.sq ?_
  refine zag.rg ?_
  simp only[rgs,Nat.reduceAdd]
  refine zag.val rfl rfl qi (v:=.agg #[.int .i64 wd,.slice ga n cap]) (fun w hp=>?_) (fun hl w hp e he=>?_) ?_
  ·have c0:=hp.cell (mcm mcs) 0 rfl
   have c1:=hp.cell (mcm mcs) 1 rfl
   go_simp
  ·have c0:=hp.cell (mcm mcs) 0 rfl
   have c1:=hp.cell (mcm mcs) 1 rfl
   simp[go_sem, *] at he
   rcases he with rfl|rfl
   all_goals exact zaG hl (mcm mcs) _
  walk_nrm
  refine zag.enter rfl rfl qi (fun w=>run_call_body rfl func60 rfl rfl) (fun w=>events_call_body rfl func60 rfl rfl _) ?_
  walk_nrm
  refine zag.callv (Kc:=Kc) (Lv:=fun _=>False) W B (fun _ _ _ _=>trivial) (fun _ _ _ h=>h.elim) hX hf4 rfl hx4 qh (v0:=.int .i64 many) (fun _ _ h=>zcG h) (fun _ h=>h) hcl1 (zcn _ hga) (fun w hp=>hmany w fun p h=>hp p (mcm (mcm h))) fun S1=>?_
  simp only[Frame.finish_at]
  walk_nrm
  refine zag.va (v:=.int .i64 many) ?_
  walk_nrm
  refine zag.re ?_
  refine zag.sq ?_
  refine zag.rg ?_
  simp only[rgs,Nat.reduceAdd]
  refine zag.va (v:=.int .i64 many) ?_
  walk_nrm
  refine zag.stop fun hl w1 hp1 _ hlt1=>?_
  intro hsz hnew _ hKS _ hkept ht ho hu
  refine zaq.quiet hG (U':=fun _=>False) rfl (V:=fun d=>(w1.at d).alloc (.chan many #[] false 0 0 false)) (fun d=>by simp[World.at]) (fun d=>zeP (v:=.chan (some w1.heap.size)) rfl rfl qi (by exact(zkI (w:=w1.at d) (n:=many) rfl rfl uC yW qg (by simp only[zfL];omega)).1) (by exact(zkI (w:=w1.at d) (n:=many) rfl rfl uC yW qg (by simp only[zfL];omega)).2)) (fun _ h=>h.elim) fun d=>?_
  obtain⟨ch,hch⟩:∃ ch,ch=w1.heap.size:=⟨_,rfl⟩
  have hchs:ch=(w1.at d).heap.size:=hch
  rw[<- hch]
  have hp2:Hp ((br,.cells #[.func (.func fr) #[] #[]] tF)::(bg,.cells #[.int .i64 wd,.slice ga n cap] 25)::l0) ((w1.at d).alloc (.chan many #[] false 0 0 false)):=fun p h=>(hp1.on d).new (.chan many #[] false 0 0 false) p (mcm h)
  have hxw2:Hp [(ch,.chan many #[] false 0 0 false)] ((w1.at d).alloc (.chan many #[] false 0 0 false)):=fun p h=>by rw[hchs] at h;exact(hp1.on d).new (.chan many #[] false 0 0 false) p (by simp at h;subst h;exact mcs)
  obtain⟨w2,hw2⟩:∃ w2,w2=(w1.at d).alloc (.chan many #[] false 0 0 false):=⟨_,rfl⟩
  have hsz2:w2.heap.size=ch+1:=by rw[hw2,hch];simp[World.at]
  have hk2:∀ e,e<w1.heap.size->w2.heap[e]?=w1.heap[e]?:=fun e he=>by rw[hw2];exact(zbo (w1.at d) _).2 e he
  have ht2:w2.tape=w1.tape/\w2.os=w1.os/\w2.output=w1.output:=by rw[hw2];exact⟨rfl,rfl,rfl⟩
  rw[<- hw2] at hp2 hxw2 ⊢
  clear hw2 hchs
  walk_nrm
  have hbgl:bg<w1.heap.size:=hlt1 bg (.inr qk)
  have hbrl:br<w1.heap.size:=hlt1 br (.inr qk)
  have hK1:∀ p∈(br,.cells #[.func (.func fr) #[] #[]] tF)::(bg,.cells #[.int .i64 wd,.slice ga n cap] 25)::l0,Kc p.1\/p.1=bg\/p.1=br:=fun p h=>by
   rcases List.mem_cons.1 h with rfl|h
   ·exact .inr (.inr rfl)
   ·rcases List.mem_cons.1 h with rfl|h
    ·exact .inr (.inl rfl)
    ·exact .inl (hl0 p h)
  refine zaq.way hG (ch:=0) (K:=fun d=>Kc d\/d=bg\/d=br) (S:=fun _=>False) (l:=(br,.cells #[.func (.func fr) #[] #[]] tF)::(bg,.cells #[.int .i64 wd,.slice ga n cap] 25)::l0) (lx:=[(ch,.chan many #[] false 0 0 false)]) hp2 (fun p h=>.inl (hK1 p h)) hxw2 (fun _ _ h=>h) (fun _ h=>h.elim) (fun d hd=>?_) ?_
  ·rcases hd with (hd|rfl|rfl)|hd
   ·exact⟨by have:=(hKc d hd).1;omega,(hKc d hd).2,fun h=>h⟩
   ·exact⟨qg,(hKS _ (.inr qk)).2.1,fun h=>h⟩
   ·exact⟨qg,(hKS _ (.inr qk)).2.1,fun h=>h⟩
   ·exact hd.elim
  refine zag.new hLa rfl rfl qi (V:=fun c=>.pointer (some ⟨c,0,none⟩)) (obj:=.cells #[.chan none] tC) (fun w hp=>qo) (fun _ w hp e he=>by simp[go_sem] at he) fun bc hK_bc hS_bc=>?_
  walk_nrm
  refine zag.put (l':=(bc,.cells #[.chan (some ch)] tC)::(br,.cells #[.func (.func fr) #[] #[]] tF)::(bg,.cells #[.int .i64 wd,.slice ga n cap] 25)::l0) (c:=bc) (obj:=.cells #[.chan (some ch)] tC) rfl rfl qi (.inr rfl) (fun _ _ _ h=>h) (fun w hp=>⟨_,zkJ (ty:=tC) rfl rfl rfl rfl rfl (hp.at mcs) zeB qk,(zaB (hp.at mcs)).1,(zaB (hp.at mcs)).2⟩) (fun _ w hp e he=>?_) (fun p hp=>?_) ?_
  ·obtain⟨q,rfl⟩:=zmV (ty:=tC) rfl rfl rfl rfl rfl (hp.at mcs) zeB qk e he
   exact Or.inl ⟨_,_,rfl,Or.inl (Or.inr rfl)⟩
  ·rcases List.mem_cons.1 hp with rfl|hp
   ·exact .inl rfl
   ·exact .inr ⟨mcm hp,fun e=>hK_bc (e ▸ hK1 p hp)⟩
  walk_nrm
  refine zag.re ?_
  refine zag.sq ?_
  refine zag.rg ?_
  simp only[rgs]
  refine zag.stop fun hl3 w3 hp3 _ hlt3=>?_
  intro hsz3 hnew3 hx3' hKS3 _ hkept3 ht3 ho3 hu3
  refine zaq.quiet hG (U':=fun e=>e=w3.heap.size) rfl (V:=fun d=>(w3.at d).alloc (.cells #[.int .u64 0,.int .u32 0] 119)) (fun d=>by simp[World.at]) (fun d=>zeP (v:=.pointer (some ⟨w3.heap.size,0,none⟩)) rfl rfl qi (by go_simp;rfl) qj) (fun e h=>.inr (Nat.le_of_eq h.symm)) fun d=>?_
  obtain⟨Wg,hWg⟩:∃ Wg,Wg=w3.heap.size:=⟨_,rfl⟩
  have hWgs:Wg=(w3.at d).heap.size:=hWg
  rw[<- hWg]
  have hp4:Hp ((bc,.cells #[.chan (some ch)] tC)::(br,.cells #[.func (.func fr) #[] #[]] tF)::(bg,.cells #[.int .i64 wd,.slice ga n cap] 25)::l0) ((w3.at d).alloc (.cells #[.int .u64 0,.int .u32 0] 119)):=fun p h=>(hp3.on d).new (.cells #[.int .u64 0,.int .u32 0] 119) p (mcm h)
  have hx4':Hp [(Wg,.cells #[.int .u64 0,.int .u32 0] 119),(ch,.chan many #[] false 0 0 false)] ((w3.at d).alloc (.cells #[.int .u64 0,.int .u32 0] 119)):=fun p h=>by rw[hWgs] at h;exact(hx3'.on d).new (.cells #[.int .u64 0,.int .u32 0] 119) p h
  obtain⟨w4,hw4⟩:∃ w4,w4=(w3.at d).alloc (.cells #[.int .u64 0,.int .u32 0] 119):=⟨_,rfl⟩
  have hsz4:w4.heap.size=Wg+1:=by rw[hw4,hWg];simp[World.at]
  have hk4:∀ e,e<w3.heap.size->w4.heap[e]?=w3.heap[e]?:=fun e he=>by rw[hw4];exact(zbo (w3.at d) _).2 e he
  have ht4:w4.tape=w3.tape/\w4.os=w3.os/\w4.output=w3.output:=by rw[hw4];exact⟨rfl,rfl,rfl⟩
  rw[<- hw4] at hp4 hx4' ⊢
  clear hw4 hWgs
  walk_nrm
  have hbcl:bc<w3.heap.size:=hlt3 bc (.inr (.inr rfl))
  have hK2:∀ p∈(bc,.cells #[.chan (some ch)] tC)::(br,.cells #[.func (.func fr) #[] #[]] tF)::(bg,.cells #[.int .i64 wd,.slice ga n cap] 25)::l0,Kc p.1\/p.1=bg\/p.1=br\/p.1=bc:=fun p h=>by
   rcases List.mem_cons.1 h with rfl|h
   ·exact .inr (.inr (.inr rfl))
   ·rcases hK1 p h with h|h|h
    ·exact .inl h
    ·exact .inr (.inl h)
    ·exact .inr (.inr (.inl h))
  have hShb:¬ Shun bg/\¬ Shun br/\¬ Shun bc:=⟨(hKS _ (.inr qk)).2.1,(hKS _ (.inr qk)).2.1,(hKS3 bc (.inr (.inr rfl))).2.1⟩
  have hchlt:ch<w3.heap.size:=qg
  refine zaq.way hG (ch:=0) (K:=fun d=>Kc d\/d=bg\/d=br\/d=bc) (S:=fun _=>False) (l:=(bc,.cells #[.chan (some ch)] tC)::(br,.cells #[.func (.func fr) #[] #[]] tF)::(bg,.cells #[.int .i64 wd,.slice ga n cap] 25)::l0) (lx:=[(Wg,.cells #[.int .u64 0,.int .u32 0] 119),(ch,.chan many #[] false 0 0 false)]) hp4 (fun p h=>.inl (hK2 p h)) hx4' (fun _ _ h=>h) (fun e h=>qg) (fun d hd=>?_) ?_
  ·rcases hd with (hd|rfl|rfl|rfl)|hd
   ·have:=hKc d hd;exact⟨qg,this.2,qg⟩
   ·exact⟨qg,hShb.1,qg⟩
   ·exact⟨qg,hShb.2.1,qg⟩
   ·exact⟨qg,hShb.2.2,qg⟩
   ·exact hd.elim
  refine zag.re ?_
  refine zag.sq ?_
  refine zag.sq ?_
  refine zag.rg ?_
  simp only[rgs,Nat.reduceAdd]
  refine zag.val rfl rfl qi (v:=.agg #[.int .i64 wd,.slice ga n cap]) (fun w hp=>?_) (fun hl w hp e he=>?_) ?_
  ·have c0:=hp.cell (mcm (mcm mcs)) 0 rfl
   have c1:=hp.cell (mcm (mcm mcs)) 1 rfl
   go_simp
  ·have c0:=hp.cell (mcm (mcm mcs)) 0 rfl
   have c1:=hp.cell (mcm (mcm mcs)) 1 rfl
   simp[go_sem, *] at he
   rcases he with rfl|rfl
   all_goals exact zaG hl (mcm (mcm mcs)) _
  walk_nrm
  have hcl2:∀ w,Hp ((bc,.cells #[.chan (some ch)] tC)::(br,.cells #[.func (.func fr) #[] #[]] tF)::(bg,.cells #[.int .i64 wd,.slice ga n cap] 25)::l0) w->Closed Kc w:=fun w hp=>hcl w (fun p h=>hp p (mcm (mcm (mcm h))))
  refine zag.enter rfl rfl qi (fun w=>run_call_body rfl func61 rfl rfl) (fun w=>events_call_body rfl func61 rfl rfl _) ?_
  walk_nrm
  refine zag.callw (Kc:=Kc) (Lv:=fun _=>False) W B (fun _ _ _ _=>trivial) (fun _ _ _ h=>h.elim) hX hf5 rfl hx5 (v0:=.agg #[.int .i64 (f0 0:Int),.int .i64 x1,.int .i64 x2,.int .i64 x3,.int .i64 x4,.int .i64 x5,.int .i64 (f0 1:Int),.int .i64 x7,.int .i64 x8,.int .i64 x9,.int .i64 x10,.int .i64 x11,.int .i64 (f0 2:Int),.int .i64 x13,.int .i64 x14,.int .i64 x15,.int .i64 x16,.int .i64 x17,.int .i64 (f0 3:Int),.int .i64 x19,.int .i64 x20,.int .i64 x21,.int .i64 x22,.int .i64 x23]) (fun _ _ h=>zmm h) (fun _ h=>.inl h) hcl2 (zcn _ hga) (fun w hp=>hsides w (fun p h=>hp p (mcm (mcm (mcm h))))) fun S1=>?_
  simp only[Frame.finish_at]
  walk_nrm
  refine zag.va (v:=.int .i64 0) ?_
  walk_nrm
  refine zag.re ?_
  refine zag.ctl rfl (fun _=>stepG_block) ?_
  refine zag.ctl rfl (fun _=>stepG_loop) ?_
  refine zag.stop fun hl5 w5 hp5 _ hlt5=>?_
  intro hsz5 hnew5 hx5' hKS5 hU5 hkept5 ht5 ho5 hu5
  obtain⟨B5,hB5⟩:∃ B5:Nat->Prop,B5=fun e=>e<w.heap.size/\¬ Shun e:=⟨_,rfl⟩
  obtain⟨Q5,hQ5⟩:∃ Q5:World->Prop,Q5=fun u=>(∀ e,B5 e->u.heap[e]?=w.heap[e]?)/\u.tape=w.tape/\u.os=w.os/\u.output=w.output/\w.heap.size<=u.heap.size:=⟨_,rfl⟩
  have hQ:zj7 B5 Q5:=by
   rw[hQ5]
   exact fun u u1 h1 h2 h3 h4 h5 ⟨a1,a2,a3,a4,a5⟩=>⟨fun e he=>(h2 e he).trans (a1 e he),h3.trans a2,h4.trans a3,h5.trans a4,Nat.le_trans a5 h1⟩
  have hq5:Q5 w5:=by
   rw[hQ5,hB5]
   refine⟨fun e he=>?_,?_,?_,?_,qg⟩
   ·have e1:=he.1
    rw[hkept5 e qg (fun h=>h),hk4 e qg,hkept3 e qg (fun h=>h),hk2 e qg,hkept e e1 (fun h=>h)]
   ·rw[ht5,ht4.1,ht3,ht2.1,ht]
   ·rw[ho5,ht4.2.1,ho3,ht2.2.1,ho]
   ·rw[hu5,ht4.2.2,hu3,ht2.2.2,hu]
  have hBl:∀ e,B5 e->e<w.heap.size/\¬ Shun e:=fun e he=>by rw[hB5] at he;exact he
  have hKB:∀ p∈(bc,.cells #[.chan (some ch)] tC)::(br,.cells #[.func (.func fr) #[] #[]] tF)::(bg,.cells #[.int .i64 wd,.slice ga n cap] 25)::l0,B5 p.1\/p.1=bg\/p.1=br\/p.1=bc:=fun p h=>(hK2 p h).imp (fun x=>by rw[hB5];exact hKc _ x) id
  have hbgw:w.heap.size<=bg/\w.heap.size<=br:=⟨by rcases hnew bg qk with h|h;exact h.elim;exact h,by rcases hnew br qk with h|h;exact h.elim;exact h⟩
  have hbcw:ch+1<=bc:=by rcases hnew3 bc (.inr rfl) with h|h;exact h.elim;omega
  have hlt6:∀ e,(B5 e\/e=bg\/e=br\/e=bc)\/False->e<w5.heap.size/\e≠Wg/\e≠ch/\¬ Shun e:=by
   rintro e ((he|rfl|rfl|rfl)|he)
   ·have:=hBl e he;exact⟨qg,qg,qg,this.2⟩
   ·exact⟨qg,qg,qg,hShb.1⟩
   ·exact⟨qg,qg,qg,hShb.2.1⟩
   ·exact⟨qg,qg,qg,hShb.2.2⟩
   ·exact he.elim
  have hlive:zak 119 Wg ch w5:=⟨⟨0,0,hx5'.at (c:=Wg) mcs⟩,_,_,_,_,_,hx5'.at (c:=ch) (mcm mcs)⟩
  have hchi:∀(f e i:Nat) (y1 y2 y3 y4 y5:Int),(e:Int)=f+y1->0<=y1->i<4->f=f0 i->e=e0 i->(∀(k:Nat) (w:World),Calls L 46 #[.agg #[.int .i64 (f:Int),.int .i64 y1,.int .i64 y2,.int .i64 y3,.int .i64 y4,.int .i64 y5],.int .i64 k] w fun e _=>e=.returned (.bool (decide ((f:Int)<=k/\(k:Int)<f+y1))))->∀(K:Nat->Prop) (bs:Nat) (l':List (Nat × Obj)),(bs,.cells #[.int .i64 (f:Int),.int .i64 y1,.int .i64 y2,.int .i64 y3,.int .i64 y4,.int .i64 y5] 86)∈l'->(∀ p∈(bc,.cells #[.chan (some ch)] tC)::(br,.cells #[.func (.func fr) #[] #[]] tF)::(bg,.cells #[.int .i64 wd,.slice ga n cap] 25)::l0,p∈l')->(∀ p∈l',K p.1)->∀ w,Hp l' w->zak 119 Wg ch w->(∀ c,K c->c<w.heap.size)->∃ rc,Sit Tryz.prog 119 Wg ch (zsf RowP) K (fun _=>False) f e ⟨7,0,0⟩ rc (born Tryz.prog (zcd fC Wg bg bs br bc)) w:=by
   intro f e i y1 y2 y3 y4 y5 hx hm hi ef ee hhas K bs l' h1 h2 h3 w hp hL hlt
   have sub:∀ p∈l0,p∈l':=fun p h=>h2 p (mcm (mcm (mcm h)))
   have hway:=zlf I0 (Wg:=Wg) (K:=K) (S:=fun _=>False) (Snd:=zsf RowP) (fin:=e) W B hX hf1 hx1 hf2 hm2 hb2 hn2 hx2 hr2 (h2 _ (mcm (mcm mcs))) h1 (h2 _ (mcm mcs)) (h2 _ mcs) (fun d hd=>by obtain⟨p,hp,rfl⟩:=hKl d hd;exact h3 p (sub p hp)) (fun w hp=>hcl w fun p h=>hp p (sub p h)) hga hx hm (by have:=he1 i hi;omega) hhas (fun k h1 h2 w hp=>hrk k (by have:=he1 i hi;omega) w fun p h=>hp p (sub p h)) hPt hPr hRs (fun k S w x bs _ _ q1 q2 q3=>⟨x,bs,rfl,q1,q2,q3⟩)
   obtain⟨rc,hr⟩:=hway (fun p h=>.inl (h3 p h)) w hp hL (fun d hd=>hlt d (hd.elim id fun x=>x.elim))
   exact⟨rc,.work hr⟩
  refine zaq.phase (ty:=119) (Wg:=Wg) (ch:=ch) (Snd:=zsf RowP) (K:=fun e=>B5 e\/e=bg\/e=br\/e=bc) (S:=fun _=>False) (Post:=zqq fR bR Wg ch B5 Q5 ((bc,.cells #[.chan (some ch)] tC)::(br,.cells #[.func (.func fr) #[] #[]] tF)::(bg,.cells #[.int .i64 wd,.slice ga n cap] 25)::l0) (.agg #[.int .i64 wd,.slice ga n cap]) (.func (.func fr) #[] #[]) many bg br bc c cs (.agg #[.int .i64 (f0 0:Int),.int .i64 x1,.int .i64 x2,.int .i64 x3,.int .i64 x4,.int .i64 x5,.int .i64 (f0 1:Int),.int .i64 x7,.int .i64 x8,.int .i64 x9,.int .i64 x10,.int .i64 x11,.int .i64 (f0 2:Int),.int .i64 x13,.int .i64 x14,.int .i64 x15,.int .i64 x16,.int .i64 x17,.int .i64 (f0 3:Int),.int .i64 x19,.int .i64 x20,.int .i64 x21,.int .i64 x22,.int .i64 x23])) (Anch:=zb1 fR bR Wg ch B5 Q5 ((bc,.cells #[.chan (some ch)] tC)::(br,.cells #[.func (.func fr) #[] #[]] tF)::(bg,.cells #[.int .i64 wd,.slice ga n cap] 25)::l0) (.agg #[.int .i64 wd,.slice ga n cap]) (.func (.func fr) #[] #[]) many bg br bc c cs _) hG (zrk RowP) (m:=4) qi qi (f0:=f0) (e0:=e0) hrng hcap (hx5'.at (c:=Wg) mcs) (hx5'.at (c:=ch) (mcm mcs)) qg rfl (fun _ h=>h.elim) hlt6 zgn (zhQ I0 hQ ?_) (fun j0=>zjU I0 rfl hQ (hchi _ _ 0 _ _ _ _ _ hx_0 hm_0 qi rfl rfl hhas_0) (hchi _ _ 1 _ _ _ _ _ hx_1 hm_1 qi rfl rfl hhas_1) (hchi _ _ 2 _ _ _ _ _ hx_2 hm_2 qi rfl rfl hhas_2) (hchi _ _ 3 _ _ _ _ _ hx_3 hm_3 qi rfl rfl hhas_3) (fun e he=>.inl he) (fun e he h=>?_) _ _ _ _ _ _ (fun p h=>.inl (hKB p h)) w5 hp5 hlive hq5 (fun e he=>(hlt6 e he).1) j0) ?_
  ·rintro (h|⟨p,hp,h⟩)
   ·have:=(hBl _ h).1;omega
   ·rcases hKB p hp with q|q|q|q
    ·have:=(hBl _ q).1;omega
    all_goals omega
  ·have:=hlt6 e he
   rcases h with h|h
   ·exact this.2.1 h
   ·exact this.2.2.1 h
  intro a w6 Kf Sf cap6 buf s6 r6 tm6 GG hP hc6 hb1 hb2 hltf hGG hGGd
  obtain⟨v9,v23,v24,v25,v26,hB6,⟨hq6,hp6,_⟩,mm,hgo⟩:=hP
  rw[hQ5] at hq6
  have hbc6:=hltf bc (hB6 bc (.inr ⟨_,mcs,rfl⟩))
  have hch6:ch<w6.heap.size:=(gei hc6).1
  refine zaq.way hG (ch:=0) (K:=fun e=>e=bc) (S:=fun _=>False) (l:=[(bc,.cells #[.chan (some ch)] tC)]) (lx:=[(ch,.chan cap6 buf false s6 r6 tm6)]) (fun p h=>by simp at h;subst h;exact hp6.at mcs) (fun p h=>by simp at h;subst h;exact .inl rfl) (fun p h=>by simp at h;subst h;exact hc6) (fun _ _ h=>h) (fun _ h=>h.elim) (fun e he=>?_) ?_
  ·rcases he with rfl|he
   ·exact⟨hbc6.1,fun h=>h.elim hbc6.2.1 hShb.2.2,fun h=>h⟩
   ·exact he.elim
  refine zag.goes ?_ mm hgo
  refine zag.re ?_
  refine zag.sq ?_
  refine zag.rg ?_
  simp only[rgs,Nat.reduceAdd]
  refine zag.val rfl rfl qi (v:=.chan (some ch)) (fun w hp=>?_) (fun hl w hp e he=>?_) ?_
  ·have c0:=hp.cell mcs 0 rfl
   go_simp
  ·have c0:=hp.cell mcs 0 rfl
   simp[go_sem, *] at he
   subst he
   exact zaG hl mcs _
  walk_nrm
  refine zag.stop fun hl7 w7 hp7 _ hlt7=>?_
  intro hsz7 hnew7 hx7 hKS7 _ hkept7 ht7 ho7 hu7
  have hch7:ch<w7.heap.size:=qg
  refine zaq.close hG rfl (hx7.at mcs) (fun d=>stepG_close rfl rfl qi rfl rfl ((hx7.on d).at mcs) qh) fun d=>?_
  obtain⟨w8,hw8⟩:∃ w8,w8=(w7.at d).setChan ch cap6 buf true s6 r6 tm6:=⟨_,rfl⟩
  have hc8:w8.heap[ch]?=some (.chan cap6 buf true s6 r6 tm6):=by rw[hw8];simp[World.setChan,World.at,hch7]
  have hk8:∀ e,e≠ch->w8.heap[e]?=w7.heap[e]?:=fun e he=>by rw[hw8];exact zbr (w7.at d) cap6 buf true s6 r6 tm6 he
  have hs8:w8.heap.size=w7.heap.size/\w8.tape=w7.tape/\w8.os=w7.os/\w8.output=w7.output:=by rw[hw8];exact⟨by simp[World.setChan,World.at],rfl,rfl,rfl⟩
  rw[<- hw8]
  clear hw8
  walk_nrm
  refine zaq.way hG (ch:=0) (K:=fun e=>e=bc) (S:=fun _=>False) (l:=[(bc,.cells #[.chan (some ch)] tC)]) (lx:=[(ch,.chan cap6 buf true s6 r6 tm6)]) (fun p h=>by simp at h;subst h;rw[hk8 _ qg];exact hp7.at mcs) (fun p h=>by simp at h;subst h;exact .inl rfl) (fun p h=>by simp at h;subst h;exact hc8) (fun _ _ h=>h) (fun _ h=>h.elim) (fun e he=>?_) ?_
  ·rcases he with rfl|he
   ·exact⟨qg,fun h=>h.elim hbc6.2.1 hShb.2.2,fun h=>h⟩
   ·exact he.elim
  refine zag.re ?_
  refine zag.sq ?_
  refine zag.rg ?_
  simp only[rgs,Nat.reduceAdd]
  refine zag.va (v:=.int .i64 many) ?_
  walk_nrm
  refine zag.new hLa rfl rfl qi (V:=fun e=>.slice (some ⟨e,0,none⟩) many many) (obj:=.cells (madeCells (Value.cells zE) (many * oE.size)) tE) (fun w hp=>zrY rfl rfl rfl uL yE zfC (by simp only[zdh];omega) qg) (fun _ w hp e he=>by rw[zst rfl rfl rfl uL yE zfC (by simp only[zdh];omega) qg (by simp only[zdh,roomBytes];omega)] at he;simp at he) fun bo hK_bo hS_bo=>?_
  walk_nrm
  refine zag.va (v:=.slice (some ⟨bo,0,none⟩) many many) ?_
  walk_nrm
  refine zag.re ?_
  refine zag.sq ?_
  refine zag.sq ?_
  refine zag.rg ?_
  simp only[rgs]
  refine zag.val rfl rfl qi (v:=.chan (some ch)) (fun w hp=>?_) (fun hl w hp e he=>?_) ?_
  ·have c0:=hp.cell (mcm mcs) 0 rfl
   go_simp
  ·have c0:=hp.cell (mcm mcs) 0 rfl
   simp[go_sem, *] at he
   subst he
   exact zaG hl (mcm mcs) _
  walk_nrm
  refine zag.re ?_
  refine zag.ctl rfl (fun _=>stepG_block) ?_
  refine zag.ctl rfl (fun _=>stepG_loop) ?_
  refine zag.stop fun hl9 w9 hp9 _ hlt9=>?_
  intro hsz9 hnew9 hx9 hKS9 _ hkept9 ht9 ho9 hu9
  have hbo9:w8.heap.size<=bo:=by rcases hnew9 bo (.inr rfl) with h|h;exact h.elim;exact h
  have hGB:∀ i k e,i<4->f0 i<=k->k<e0 i->GG k e->w.heap.size<=e/\e<w6.heap.size/\e≠Wg/\e≠ch/\¬ Shun e:=fun i k e h1 h2 h3 h4=>by
   obtain⟨g1,g2,g3,g4,g5,g6⟩:=hGG i k e h1 h2 h3 h4
   refine⟨Nat.le_of_not_lt fun q=>?_,g1,g2,g3,g4⟩
   exact(hB6 e (.inl (by rw[hB5];exact⟨q,g4⟩))).elim g5 g6
  have hk68:∀ e,e<w6.heap.size->e≠ch->w8.heap[e]?=w6.heap[e]?:=fun e h1 h2=>by rw[hk8 e h2,hkept7 e qg (fun h=>h)]
  have hB8:∀ e,(B5 e\/∃ i k,i<4/\f0 i<=k/\k<e0 i/\GG k e)->e<w6.heap.size/\e≠ch:=by
   rintro e (he|⟨i,k,h1,h2,h3,h4⟩)
   ·have:=hBl e he;exact⟨qg,qg⟩
   ·have:=hGB i k e h1 h2 h3 h4;exact⟨this.2.1,this.2.2.2.1⟩
  refine zke (B:=fun e=>B5 e\/∃ i k,i<4/\f0 i<=k/\k<e0 i/\GG k e) (w0:=w8) (V:=fun k y=>∃ bs,RowP k y bs/\Hp bs w8/\∀ p∈bs,GG k p.1) hG (fun e he=>by have:=(hB8 e he).1;omega) hbo9 (fun h=>(hB8 _ h).2 rfl) (fun k y ⟨bs,h,_⟩=>hRs k y bs h) qg (hKS9 bo (.inr (.inr rfl))).2.1 (fun _ _ h=>h) (fun u xs hu hxs hbo=>?_) buf.toList _ cap6 s6 r6 tm6 _ _ _ _ _ _ _ _ _ _ _ _ _ _ _ _ _ _ _ _ _ _ _ _ _ _ _ _ _ _ _ _ _ _ _ _ _ _ _ _ w9 (fun x hx=>?_) (by simp[madeCells,zib]) (fun k hk=>.inr ?_) (hx9.at mcs) (hp9.at mcs) ?_
  ·have hch:∀ k:Nat,∃ bs,k<many->RowP k (xs k) bs/\Hp bs w8/\∀ p∈bs,GG k p.1:=fun k=>by
    by_cases h:k<many
    ·obtain⟨bs,q⟩:=hxs k h
     exact⟨bs,fun _=>q⟩
    ·exact⟨[],fun q=>absurd q h⟩
   obtain⟨bsf,hbsf⟩:∃ bsf:Nat->List (Nat × Obj),∀ k,k<many->RowP k (xs k) (bsf k)/\Hp (bsf k) w8/\∀ p∈bsf k,GG k p.1:=⟨fun k=>(hch k).choose,fun k=>(hch k).choose_spec⟩
   obtain⟨a1,a2,a3,a4,a5⟩:=hu
   obtain⟨b1,b2,b3,b4,b5⟩:=hq6
   refine hfin u bo xs bsf ⟨fun e he=>?_,by rw[a2,hs8.2.1,ht7,b2],by rw[a3,hs8.2.2.1,ho7,b3],by rw[a4,hs8.2.2.2,hu7,b4],qg⟩ qg hbo (fun k h=>⟨(hbsf k h).1,fun p hp=>?_,fun p hp=>?_⟩) (fun k k' p p' h h' hp hp' e=>?_) (fun c=>c=Wg\/Shun c) (fun e he=>he.elim (fun h=>.inr qg) .inl) (hKS9 bo (.inr (.inr rfl))).2.1 (fun k h p hp=>?_)
   ·have he5:B5 e:=by rw[hB5];exact he
    have h1:=hB8 e (.inl he5)
    rw[a1 e (.inl he5),hk68 e h1.1 h1.2,b1 e he5]
   ·obtain⟨i,c1,c2,c3⟩:=hcover k h
    rw[a1 p.1 (.inr ⟨i,k,c1,c2,c3,(hbsf k h).2.2 p hp⟩)]
    exact(hbsf k h).2.1 p hp
   ·obtain⟨i,c1,c2,c3⟩:=hcover k h
    have:=hGB i k p.1 c1 c2 c3 ((hbsf k h).2.2 p hp)
    exact⟨this.1,qg⟩
   ·obtain⟨i,c1,c2,c3⟩:=hcover k h
    obtain⟨i',c1',c2',c3'⟩:=hcover k' h'
    exact hGGd i k i' k' p.1 c1 c2 c3 c1' c2' c3' ((hbsf k h).2.2 p hp) (e ▸ (hbsf k' h').2.2 p' hp')
   ·obtain⟨i,c1,c2,c3⟩:=hcover k h
    have:=hGB i k p.1 c1 c2 c3 ((hbsf k h).2.2 p hp)
    exact fun q=>q.elim this.2.2.1 this.2.2.2.2
  ·obtain⟨i,k,a1,a2,a3,y,bs,rfl,r1,r2,r3⟩:=hb1 x (by simpa using hx)
   refine⟨k,y,by have:=he1 i a1;omega,⟨bs,r1,fun p hp=>?_,r3⟩,rfl⟩
   have:=hGB i k p.1 a1 a2 a3 (r3 p hp)
   rw[hk68 p.1 this.2.1 this.2.2.2.1]
   exact r2 p hp
  ·obtain⟨i,a1,a2,a3⟩:=hcover k hk
   obtain⟨x,hx,y,bs,rfl,r1,r2,r3⟩:=hb2 i k a1 a2 a3
   refine⟨y,⟨bs,r1,fun p hp=>?_,r3⟩,by simpa using hx⟩
   have:=hGB i k p.1 a1 a2 a3 (r3 p hp)
   rw[hk68 p.1 this.2.1 this.2.2.2.1]
   exact r2 p hp
  ·refine⟨fun e he=>hkept9 e (by have:=(hB8 e he).1;omega) (fun h=>h),ht9,ho9,hu9,qg⟩):P:=h
abbrev zj8(fR tE:Nat)(Sh:Value->Prop):Prop:=∀ [Payload] {L:Program} {Goal:Machine->Trace->Prop} {Shun:Nat->Prop} {c:Frame} {cs:List Frame} (hG:zba Tryz.prog Goal) [T:zaA L Tryz.prog] [zaA L L] (W:Whole L) {X:FuncId->Prop} (B:Bodies L Tryz.prog X)
  (hX:zk7 L X)
  (hf3:L.funcs[34]?=some Tryz.f34) (hx3:¬ X 34) (hf4:L.funcs[60]?=some Tryz.f60) (hx4:¬ X 60) (hf5:L.funcs[61]?=some Tryz.f61) (hx5:¬ X 61)
  {fr:FuncId} {wd:Int} {ga:Option Addr} {n cap:Nat} {many:Nat} {l0:List (Nat × Obj)} {Kc:Nat->Prop}
  (hl0:∀ p∈l0,Kc p.1) (hcl:∀ w,Hp l0 w->Closed Kc w) (hga:zaj (zeA Kc) (.slice ga n cap) (.slice ga n cap))
  (hok:∀ w,Hp l0 w->∀ τ d,Calls L 34 #[.agg #[.int .i64 wd,.slice ga n cap]] (w.frz.tp τ d) fun e _=>e=.returned (.bool true)) (hmany:∀ w,Hp l0 w->∀ τ d,Calls L 60 #[.agg #[.int .i64 wd,.slice ga n cap]] (w.frz.tp τ d) fun e _=>e=.returned (.int .i64 many))
  {x1 x2 x3 x4 x5 x7 x8 x9 x10 x11 x13 x14 x15 x16 x17 x19 x20 x21 x22 x23:Int} {f0 e0:Nat->Nat} (hsides:∀ w,Hp l0 w->∀ τ d,Calls L 61 #[.agg #[.int .i64 wd,.slice ga n cap]] (w.frz.tp τ d) fun e _=>e=.returned (.agg #[.int .i64 (f0 0:Int),.int .i64 x1,.int .i64 x2,.int .i64 x3,.int .i64 x4,.int .i64 x5,.int .i64 (f0 1:Int),.int .i64 x7,.int .i64 x8,.int .i64 x9,.int .i64 x10,.int .i64 x11,.int .i64 (f0 2:Int),.int .i64 x13,.int .i64 x14,.int .i64 x15,.int .i64 x16,.int .i64 x17,.int .i64 (f0 3:Int),.int .i64 x19,.int .i64 x20,.int .i64 x21,.int .i64 x22,.int .i64 x23])) {fn:Func} (hf1:L.funcs[46]?=some Tryz.f46) (hx1:¬ X 46) (hf2:L.funcs[fr]?=some fn) (hm2:Tryz.prog.funcs[fr]?=some fn) (hb2:fn.body.isSome=true) (hn2:(fn.name == "runtime.NumGoroutine")=false) (hx2:¬ X fr) (hr2:zcp fn=true)
  {Post:Nat->World->Value->World->Prop} {RowP:Nat->Value->List (Nat × Obj)->Prop} (hrng:Rng 4 f0 e0) (hcap:sumTo 4 (fun i=>e0 i - f0 i)<=many) (hKl:∀ c,Kc c->∃ p∈l0,p.1=c)
  (hx_0:(e0 0:Int)=f0 0+x1) (hm_0:0<=x1) (hhas_0:∀(k:Nat) (w:World),Calls L 46 #[.agg #[.int .i64 (f0 0:Int),.int .i64 x1,.int .i64 x2,.int .i64 x3,.int .i64 x4,.int .i64 x5],.int .i64 k] w fun e _=>e=.returned (.bool (decide (((f0 0:Nat):Int)<=k/\(k:Int)<f0 0+x1)))) (hx_1:(e0 1:Int)=f0 1+x7) (hm_1:0<=x7) (hhas_1:∀(k:Nat) (w:World),Calls L 46 #[.agg #[.int .i64 (f0 1:Int),.int .i64 x7,.int .i64 x8,.int .i64 x9,.int .i64 x10,.int .i64 x11],.int .i64 k] w fun e _=>e=.returned (.bool (decide (((f0 1:Nat):Int)<=k/\(k:Int)<f0 1+x7)))) (hx_2:(e0 2:Int)=f0 2+x13) (hm_2:0<=x13) (hhas_2:∀(k:Nat) (w:World),Calls L 46 #[.agg #[.int .i64 (f0 2:Int),.int .i64 x13,.int .i64 x14,.int .i64 x15,.int .i64 x16,.int .i64 x17],.int .i64 k] w fun e _=>e=.returned (.bool (decide (((f0 2:Nat):Int)<=k/\(k:Int)<f0 2+x13)))) (hx_3:(e0 3:Int)=f0 3+x19) (hm_3:0<=x19) (hhas_3:∀(k:Nat) (w:World),Calls L 46 #[.agg #[.int .i64 (f0 3:Int),.int .i64 x19,.int .i64 x20,.int .i64 x21,.int .i64 x22,.int .i64 x23],.int .i64 k] w fun e _=>e=.returned (.bool (decide (((f0 3:Nat):Int)<=k/\(k:Int)<f0 3+x19))))
  (he1:∀ j,j<4->e0 j<=many) (hrk:∀ k:Nat,k<many->∀ w,Hp l0 w->∀ τ d,Calls L fr #[.agg #[.int .i64 wd,.slice ga n cap],.int .i64 k] (w.frz.tp τ d) fun e w'=>∃ v,e=.returned v/\Post k w v w')
  (hPt:∀ k w0 v w τ d,Post k w0 v w->Post k w0 v (w.tp τ d)) (hPr:∀ k w0 v v' R wl w₁,Post k w0 v wl->zaj R v v'->za9 w0.heap.size R wl w₁->∃ bs,RowP k v' bs/\Hp bs w₁/\∀ p∈bs,zby w0.heap.size R p.1) (hRs:∀ k x bs,RowP k x bs->Sh x)
  (hcover:∀ k,k<many->∃ i,i<4/\f0 i<=k/\k<e0 i) (hmn:many<=1000) (w:World) (hp0:Hp l0 w) (hKc:∀ c,Kc c->c<w.heap.size/\¬ Shun c)
  (hfin:∀(u:World) (bo:Nat) (xs:Nat->Value) (bsf:Nat->List (Nat × Obj)),zcb (fun e=>e<w.heap.size/\¬ Shun e) w u->w.heap.size<=bo->u.heap[bo]?=some (.cells (Array.ofFn fun k:Fin many=>xs k) tE) ->
   (∀ k,k<many->RowP k (xs k) (bsf k)/\Hp (bsf k) u/\∀ p∈bsf k,w.heap.size<=p.1/\p.1≠bo)->(∀ k k' p p',k<many->k'<many->p∈bsf k->p'∈bsf k'->p.1=p'.1->k=k') ->
   ∀ Shun':Nat->Prop,(∀ e,Shun' e->Shun e\/w.heap.size<=e)->¬ Shun' bo->(∀ k,k<many->∀ p∈bsf k,¬ Shun' p.1)->zaq Tryz.prog Goal Shun' (fun _=>False) (G (c.finish (.slice (some ⟨bo,0,none⟩) many many)) cs) u),
  zaq Tryz.prog Goal Shun (fun _=>False) (G (Frame.enter Tryz.prog fR #[.agg #[.int .i64 wd,.slice ga n cap],.func (.func fr) #[] #[]] .normal) (c::cs)) w
namespace R1
abbrev I0:=Ins.int
theorem zfL:Tryz.t147.bytes=16:=qh
theorem zeB:(Tryz.prog.info? 144).map (·.size)=some 1:=qh
noncomputable abbrev oE:=Tryz.t3
theorem zfC:Tryz.t3.zero=some (.int .i64 0):=qh
theorem zdh:Tryz.t3.bytes=8:=qh
theorem zib:Tryz.t3.size=1:=qh
abbrev uC:=Tryz.underlying144
abbrev yW:=type147
abbrev uL:=Tryz.underlying26
abbrev yE:=type3
theorem zdJ:zj8 fR tE (fun x=>∃ xa xn xc,x=shp xa xn xc):=by
 unfold zj8
 unhygienic intros
 exact zfN
end R1
abbrev I0:=Ins.ints
theorem zfL:Tryz.t125.bytes=32:=qh
theorem zeB:(Tryz.prog.info? 109).map (·.size)=some 1:=qh
noncomputable abbrev oE:=Tryz.t26
theorem zfC:Tryz.t26.zero=some (.slice none 0 0):=qh
theorem zdh:Tryz.t26.bytes=24:=qh
theorem zib:Tryz.t26.size=1:=qh
abbrev uC:=Tryz.underlying109
abbrev yW:=type125
abbrev uL:=Tryz.underlying27
abbrev yE:=type26
theorem zdJ:zj8 fR tE (fun x=>∃ xa xn xc,x=shp xa xn xc):=by
 unfold zj8
 unhygienic intros
 exact zfN
end R2
section
open Go Go.Conc
def zrU(ops:Array Oper):Nat->Array Bool->List (List Nat)
 | 0,_=>[[]]
 | fuel+1,listed=>match Region.ready .any ops listed with
  | []=>[[]]
  | r::rs=>(r::rs).flatMap fun i=>(zrU ops fuel (listed.setIfInBounds i true)).map (i::·)
theorem zrb{ops:Array Oper}:∀(fuel t:Nat) (listed:Array Bool),Region.linearise.go .any ops fuel t listed []∈zrU ops fuel listed:=by
 intro fuel
 induction fuel with
 | zero=>intro t listed;simp[Region.linearise.go,zrU]
 | succ fuel ih =>
  intro t listed
  simp only[Region.linearise.go,zrU]
  change (match (Region.ready .any ops listed)[t % (Region.ready .any ops listed).length]? with
   | some i=>Region.linearise.go .any ops fuel (t / (Region.ready .any ops listed).length) (listed.setIfInBounds i true) [i]
   | none=>[].reverse)∈_
  cases hr:Region.ready .any ops listed with
  | nil=>simp
  | cons x xs =>
   have hlt:t % (x::xs).length<(x::xs).length:=Nat.mod_lt _ qk
   rw[List.getElem?_eq_getElem hlt]
   refine List.mem_flatMap.2 ⟨_,List.getElem_mem hlt,List.mem_map.2 ⟨_,ih (t / (x::xs).length) _,?_⟩⟩
   simp only[]
   rw[linearise_go_acc (acc:=[_]),List.reverse_singleton,List.singleton_append]
section
variable{M:Program}{main:Bool}{Live:World->Prop}{Ex:Event->Prop}{Stop:Nat->(Nat->Prop)->Goroutine->World->Prop}{Snd:Nat->(Nat->Prop)->Value->World->Prop}{ch:Nat}{K:Nat->Prop}{l:List (Nat × Obj)}{σ:Nat}{S:Nat->Prop}{b:Frame}{a:Act}{k:List Item}{cs:List Frame}{ops:Array Oper}{id:Nat}
theorem zag.draw(hm:M.follows .mixedOrders=true)(hLd:∀ w:World,Live w->Live { w with drawn:=w.drawn+1 })(hr:zrU ops ops.size (Array.replicate ops.size false)=rs)(hn:∀ r∈rs,zag M main Live Ex Stop Snd ch K l σ S (G (b.at a (.inRegion ops r::k)) cs)):zag M main Live Ex Stop Snd ch K l σ S (G (b.at a (.code (.region id ops true)::k)) cs) :=
 fun hl w hp hL hlt=>zaW.go rfl fun w₁ hs=>by
  have h1:=hn _ (hr ▸ zrb ops.size (w₁.tape w₁.drawn (.order b.fn id)) _)
  have e:Region.schedule (M.follows .mixedOrders) ops (w₁.tape w₁.drawn (.order b.fn id))=Region.linearise.go .any ops ops.size (w₁.tape w₁.drawn (.order b.fn id)) (Array.replicate ops.size false) []:=by
   simp only[Region.schedule,hm,Bool.true_or,if_true]
   rfl
  refine⟨_,{ w₁ with drawn:=w₁.drawn+1 },_,S,stepG_region_draw,⟨Nat.le_refl _,fun _ h=>h,fun _ h=>Or.inl h,fun _ _ _=>rfl,rfl,rfl,rfl,qk⟩,?_⟩
  rw[e]
  exact(h1 hl w hp hL hlt).rely ⟨hs.size,hs.same,hs.tape,hs.os,hs.out,fun h=>hLd _ (hs.live h)⟩
end
section
variable{M:Program}{main:Bool}{Live:World->Prop}{Ex:Event->Prop}{Stop:Nat->(Nat->Prop)->Goroutine->World->Prop}{Snd:Nat->(Nat->Prop)->Value->World->Prop}{ch:Nat}{K:Nat->Prop}{l:List (Nat × Obj)}{σ:Nat}{S:Nat->Prop}{b c:Frame}{a:Act}{todo:List Item}{cs:List Frame}{fn:Func}{v:Value}
theorem ziK{w:World}(hn:b.kind=.normal)(hd:a.defers=[])(hf:M.funcs[b.fn]?=some fn)(hr:(results fn a.tmps).run M w=.ok v w) :
  ∃ es,stepG M main (G { b.at a todo with mode:=.returning } (c::cs)) w=.go (G (c.finish v) cs) w es/\∀ e∈es,e∈(results fn a.tmps).events M w #[]:=by
 refine⟨seen M b.fn ((results fn a.tmps).events M w #[]),?_,fun e he=>mem_seen he⟩
 simp[G,stepG,unwind,doReturn,Frame.at,hn,hd,hf,hr,GStep.after]
theorem zag.leave(hn:b.kind=.normal)(hd:a.defers=[])(hf:M.funcs[b.fn]?=some fn)(hr:∀ w,Hp l w->(results fn a.tmps).run M w=.ok v w)(he:(∀ p∈l,K p.1\/S p.1)->∀ w,Hp l w->∀ e∈(results fn a.tmps).events M w #[],EvS K S e)(hN:zag M main Live Ex Stop Snd ch K l σ S (G (c.finish v) cs)):zag M main Live Ex Stop Snd ch K l σ S (G { b.at a todo with mode:=.returning } (c::cs)) :=
 fun hl w hp hL hlt=>zaW.go rfl fun w₁ hs=>by
  obtain⟨es,h1,h2⟩:=ziK (main:=main) (todo:=todo) (c:=c) (cs:=cs) hn hd hf (hr w₁ (hp.sees hl hs))
  exact⟨_,w₁,es,S,h1,⟨Nat.le_refl _,fun _ h=>h,fun _ h=>Or.inl h,fun _ _ _=>rfl,rfl,rfl,rfl,fun e hx=>Or.inl (he hl w₁ (hp.sees hl hs) e (h2 e hx))⟩,(hN hl w hp hL hlt).rely hs⟩
end
end
section
open Go Go.Conc Go.ConcN Go.RowKit Go.Conc.Lib Go.ConcR.Gen Go.ConcN.Gen
open Go.ConcR (KK wgBlock WgAt stA smA rd wr mk Payload Aside2 DC0)
noncomputable abbrev zfR:Array Oper:=match Tryz.f22.body with|some (.seq _ (.seq _ (.seq (.region _ o _) _)))=>o|_=>#[]
theorem zdg:(Tryz.prog.info? 29).map (·.size)=some 4:=qh
section
variable{Goal:Machine->Trace->Prop}{c:Frame}{cs:List Frame}
theorem scD(hG:zba Tryz.prog Goal){M bf:Nat}(hs:u.heap[bs]?=some (.cells #[.int .i64 0,.slice none 0 0,.slice none 0 0,.slice none 0 0] 29))(hsn:¬ Sh bs)(hfin:∀ u2:World,zcb (fun e=>e<u.heap.size/\e≠bs) u u2->zaq Tryz.prog Goal Sh (fun _=>False) (G (c.finish (.tuple #[.agg #[.int .i64 wd,.slice (some ⟨bc,0,none⟩) n n,.slice (some ⟨bl,0,none⟩) M M,.slice (some ⟨bf,0,none⟩) M M],.bool true])) cs) u2)(y0 y1 y3 y4 y5 y6 y7 y8 y10 y12 y14:Value) :
  zaq Tryz.prog Goal Sh (fun _=>False) (G ((base 22).at ⟨#[y0,y1,.pointer (some ⟨bs,0,none⟩),y3,y4,y5,y6,y7,y8,.agg #[.int .i64 wd,.slice (some ⟨bc,0,none⟩) n n],y10,.slice (some ⟨bl,0,none⟩) M M,y12,.slice (some ⟨bf,0,none⟩) M M,y14],[]⟩ [.inRegion zfR [6,7,8],.code .ret]) (c::cs)) u:=by
 have hlt:=(gei hs).1
 refine zaq.way hG (ch:=0) (K:=fun _=>False) (S:=fun e=>e=bs) (l:=[(bs,.cells #[.int .i64 0,.slice none 0 0,.slice none 0 0,.slice none 0 0] 29)]) (lx:=[]) (fun p h=>by simp at h;subst h;exact hs) (fun p h=>by simp at h;subst h;exact .inr rfl) (fun _ h=>by cases h) (fun _ h=>by cases h) (fun _ h=>h.elim) (fun e he=>by rcases he with he|rfl;exact he.elim;exact⟨hlt,hsn,fun h=>h⟩) ?_
 simp only[zfR,Tryz.f22]
 refine zag.va (v:=.agg #[.int .i64 wd,.slice (some ⟨bc,0,none⟩) n n,.slice (some ⟨bl,0,none⟩) M M,.slice (some ⟨bf,0,none⟩) M M]) ?_
 walk_nrm
 refine zag.put (l':=[(bs,.cells #[.int .i64 wd,.slice (some ⟨bc,0,none⟩) n n,.slice (some ⟨bl,0,none⟩) M M,.slice (some ⟨bf,0,none⟩) M M] 29)]) (c:=bs) (obj:=.cells #[.int .i64 wd,.slice (some ⟨bc,0,none⟩) n n,.slice (some ⟨bl,0,none⟩) M M,.slice (some ⟨bf,0,none⟩) M M] 29) rfl rfl qi rfl (fun _ _ _ h=>h) (fun w hp=>⟨_,zhs (ty:=29) (cells:=#[.int .i64 wd,.slice (some ⟨bc,0,none⟩) n n,.slice (some ⟨bl,0,none⟩) M M,.slice (some ⟨bf,0,none⟩) M M]) rfl rfl rfl (hp.at mcs) zdg rfl qm,(zaB (hp.at mcs)).1,(zaB (hp.at mcs)).2⟩) (fun _ w hp e he=>?_) (fun p hp=>?_) ?_
 ·obtain⟨q,rfl⟩:=zkk (ty:=29) (cells:=#[.int .i64 wd,.slice (some ⟨bc,0,none⟩) n n,.slice (some ⟨bl,0,none⟩) M M,.slice (some ⟨bf,0,none⟩) M M]) rfl rfl rfl (hp.at mcs) zdg rfl qm e he
  exact Or.inl ⟨_,_,rfl,Or.inl rfl⟩
 ·rcases List.mem_cons.1 hp with rfl|hp
  ·exact .inl rfl
  ·cases hp
 walk_nrm
 refine zag.va (v:=.bool true) ?_
 walk_nrm
 refine zag.re ?_
 refine zag.ctl rfl (fun _=>stepG_ret') ?_
 refine zag.leave (v:=.tuple #[.agg #[.int .i64 wd,.slice (some ⟨bc,0,none⟩) n n,.slice (some ⟨bl,0,none⟩) M M,.slice (some ⟨bf,0,none⟩) M M],.bool true]) rfl rfl func22 (fun w hp=>?_) (fun hl w hp e he=>?_) ?_
 ·have c0:=hp.cell mcs 0 rfl
  have c1:=hp.cell mcs 1 rfl
  have c2:=hp.cell mcs 2 rfl
  have c3:=hp.cell mcs 3 rfl
  simp[results,results22,go_sem,c0,c1,c2,c3]
 ·have c0:=hp.cell mcs 0 rfl
  have c1:=hp.cell mcs 1 rfl
  have c2:=hp.cell mcs 2 rfl
  have c3:=hp.cell mcs 3 rfl
  simp[results,results22,go_sem,c0,c1,c2,c3] at he
  rcases he with rfl|rfl|rfl|rfl
  all_goals exact zaG hl mcs _
 refine zag.stop fun hl3 w3 hp3 _ hlt3=>?_
 intro hsz3 hnew3 hx3 hKS3 _ hkept3 ht3 ho3 hu3
 exact hfin w3 ⟨fun e he=>hkept3 e he.1 he.2,ht3,ho3,hu3,hsz3⟩
end
structure zdQ(RowP:Nat->Value->List (Nat × Obj)->Prop)(M B:Nat)(u:World)(bo:Nat)(xs:Nat->Value)(bsf:Nat->List (Nat × Obj))(Sh:Nat->Prop):Prop where
 new:B<=bo
 all:u.heap[bo]?=some (.cells (Array.ofFn fun k:Fin M=>xs k) 26)
 row:∀ k,k<M->RowP k (xs k) (bsf k)/\Hp (bsf k) u/\∀ p∈bsf k,B<=p.1/\p.1≠bo
 once:∀ k k' p p',k<M->k'<M->p∈bsf k->p'∈bsf k'->p.1=p'.1->k=k'
 seen:¬ Sh bo
 rows:∀ k,k<M->∀ p∈bsf k,¬ Sh p.1
def ziW(Goal:Machine->Trace->Prop)(wd:Int)(ga:Option Addr)(n cap M:Nat)(l0:List (Nat × Obj))(Kc:Nat->Prop)(RowP:Nat->Value->List (Nat × Obj)->Prop):Prop :=
 ∀(Sh0:Nat->Prop) (c0:Frame) (cs0:List Frame) (w0:World),Hp l0 w0->(∀ e,Kc e->e<w0.heap.size/\¬ Sh0 e)->(∀(u:World) (bo:Nat) (xs:Nat->Value) (bsf:Nat->List (Nat × Obj)) (Sh:Nat->Prop),zcb (fun e=>e<w0.heap.size/\¬ Sh0 e) w0 u->zdQ RowP M w0.heap.size u bo xs bsf Sh->(∀ e,Sh e->Sh0 e\/w0.heap.size<=e)->zaq Tryz.prog Goal Sh (fun _=>False) (G (c0.finish (.slice (some ⟨bo,0,none⟩) M M)) cs0) u) ->
  zaq Tryz.prog Goal Sh0 (fun _=>False) (G (Frame.enter Tryz.prog 37 #[.agg #[.int .i64 wd,.slice ga n cap],.func (.func 9) #[] #[]] .normal) (c0::cs0)) w0
def zrF(Goal:Machine->Trace->Prop)(wd:Int)(ga:Option Addr)(n cap M:Nat)(l0:List (Nat × Obj))(Kc:Nat->Prop)(objL:Obj):Prop :=
 ∀(Sh0:Nat->Prop) (c0:Frame) (cs0:List Frame) (w0:World),Hp l0 w0->(∀ e,Kc e->e<w0.heap.size/\¬ Sh0 e)->(∀(u:World) (bo:Nat) (Sh:Nat->Prop),zcb (fun e=>e<w0.heap.size/\¬ Sh0 e) w0 u->w0.heap.size<=bo->u.heap[bo]?=some objL->¬ Sh bo->(∀ e,Sh e->Sh0 e\/w0.heap.size<=e)->zaq Tryz.prog Goal Sh (fun _=>False) (G (c0.finish (.slice (some ⟨bo,0,none⟩) M M)) cs0) u) ->
  zaq Tryz.prog Goal Sh0 (fun _=>False) (G (Frame.enter Tryz.prog 36 #[.agg #[.int .i64 wd,.slice ga n cap]] .normal) (c0::cs0)) w0
theorem zdQ.mono{M B B':Nat}{u2:World}{bo:Nat}(h:zdQ RowP M B u bo xs bsf Sh)(hB:B'<=B)(hk:∀ e o,B<=e->u.heap[e]?=some o->u2.heap[e]?=some o):zdQ RowP M B' u2 bo xs bsf Sh :=
 ⟨by have:=h.new;omega,hk _ _ h.new h.all,fun k q=>⟨(h.row k q).1,fun p hp=>hk _ _ ((h.row k q).2.2 p hp).1 ((h.row k q).2.1 p hp),fun p hp=>⟨by have:=((h.row k q).2.2 p hp).1;omega,((h.row k q).2.2 p hp).2⟩⟩,h.once,h.seen,h.rows⟩
section
variable{Goal:Machine->Trace->Prop}{c:Frame}{cs:List Frame}
theorem znT(h:P:=by
  have hlt:=(gei hs).1
  refine hfeet Sh0 _ _ w1 hq (fun e he=>⟨by have:=(hK0 e he).1;omega,(hK0 e he).2⟩) fun u bf xs bsf Sh hk hF hSh=>?_
  simp only[Frame.finish_at]
  walk_nrm
  obtain⟨a1,a2,a3,a4,a5⟩:=hk
  have hsu:u.heap[bs]?=some (.cells #[.int .i64 0,.slice none 0 0,.slice none 0 0,.slice none 0 0] 29):=(a1 bs ⟨qg,hsn⟩).trans ((hkept1 bs hlt (fun h=>h)).trans hs)
  refine scD hG (wd:=wd) (n:=n) (M:=M) (bs:=bs) (bc:=bc) (bl:=bl) (bf:=bf) hsu (fun h=>by rcases hSh bs h with h|h;exact hsn h;omega) (fun u2 hk2=>?_) _ _ _ _ _ _ _ _ _ _ _
  obtain⟨b1,b2,b3,b4,b5⟩:=hk2
  have hfm:∀ e o,w1.heap.size<=e->u.heap[e]?=some o->u2.heap[e]?=some o:=fun e o q1 q2=>(b1 e ⟨(gei q2).1,qg⟩).trans q2
  exact hfin u2 bf xs bsf Sh ⟨fun e he=>((b1 e ⟨qg,he.2.2⟩).trans (a1 e ⟨qg,he.2.1⟩)).trans (hkept1 e he.1 (fun h=>h)),b2.trans (a2.trans ht1),b3.trans (a3.trans ho1),b4.trans (a4.trans hu1),qg⟩ (hF.mono hsz1 hfm) (fun e he=>(hSh e he).imp id fun h=>qg)):P:=h
theorem zsG(hG:zba Tryz.prog Goal){M:Nat}(hl0:∀ p∈l0,Kc p.1)(hfeet:ziW Goal wd ga n cap M l0 Kc RowP)(hp0:Hp l0 u0)(hK0:∀ e,Kc e->e<u0.heap.size/\¬ Sh0 e)(hs:u0.heap[bs]?=some (.cells #[.int .i64 0,.slice none 0 0,.slice none 0 0,.slice none 0 0] 29))(hsn:¬ Sh0 bs)(hfin:∀(u2:World) (bf:Nat) (xs:Nat->Value) (bsf:Nat->List (Nat × Obj)) (Sh:Nat->Prop),zcb (fun e=>e<u0.heap.size/\¬ Sh0 e/\e≠bs) u0 u2->zdQ RowP M u0.heap.size u2 bf xs bsf Sh->(∀ e,Sh e->Sh0 e\/u0.heap.size<=e)->zaq Tryz.prog Goal Sh (fun _=>False) (G (c.finish (.tuple #[.agg #[.int .i64 wd,.slice (some ⟨bc,0,none⟩) n n,.slice (some ⟨bl,0,none⟩) M M,.slice (some ⟨bf,0,none⟩) M M],.bool true])) cs) u2)(y0 y1 y3 y4 y5 y6 y7 y8 y10 y13 y14:Value) :
  zaq Tryz.prog Goal Sh0 (fun _=>False) (G ((base 22).at ⟨#[y0,y1,.pointer (some ⟨bs,0,none⟩),y3,y4,y5,y6,y7,y8,.agg #[.int .i64 wd,.slice (some ⟨bc,0,none⟩) n n],y10,.slice (some ⟨bl,0,none⟩) M M,.agg #[.int .i64 wd,.slice ga n cap],y13,y14],[]⟩ [.inRegion zfR [5,6,7,8],.code .ret]) (c::cs)) u0:=by
 refine zaq.way hG (ch:=0) (K:=Kc) (S:=fun _=>False) (l:=l0) (lx:=[]) hp0 (fun p h=>.inl (hl0 p h)) (fun _ h=>by cases h) (fun _ h=>by cases h) (fun _ h=>h.elim) (fun e he=>⟨(hK0 e (he.elim id fun x=>x.elim)).1,(hK0 e (he.elim id fun x=>x.elim)).2,fun h=>h⟩) ?_
 simp only[zfR,Tryz.f22]
 skip
 refine zag.enter rfl rfl qi (fun w=>run_call_body rfl func37 rfl rfl) (fun w=>events_call_body rfl func37 rfl rfl _) ?_
 walk_nrm
 refine zag.stop fun hl1 w1 hp1 _ hlt1=>?_
 intro hsz1 hnew1 hx1 hKS1 _ hkept1 ht1 ho1 hu1
 have hq:Hp l0 w1:=fun p h=>hp1 p h
 exact znT
theorem zsH(hG:zba Tryz.prog Goal){M:Nat}(hl0:∀ p∈l0,Kc p.1)(hfeet:ziW Goal wd ga n cap M l0 Kc RowP)(hp0:Hp l0 u0)(hK0:∀ e,Kc e->e<u0.heap.size/\¬ Sh0 e)(hs:u0.heap[bs]?=some (.cells #[.int .i64 0,.slice none 0 0,.slice none 0 0,.slice none 0 0] 29))(hsn:¬ Sh0 bs)(hb:u0.heap[bg]?=some (.cells #[.int .i64 wd,.slice ga n cap] 25))(hbn:¬ Sh0 bg)(hfin:∀(u2:World) (bf:Nat) (xs:Nat->Value) (bsf:Nat->List (Nat × Obj)) (Sh:Nat->Prop),zcb (fun e=>e<u0.heap.size/\¬ Sh0 e/\e≠bs) u0 u2->zdQ RowP M u0.heap.size u2 bf xs bsf Sh->(∀ e,Sh e->Sh0 e\/u0.heap.size<=e)->zaq Tryz.prog Goal Sh (fun _=>False) (G (c.finish (.tuple #[.agg #[.int .i64 wd,.slice (some ⟨bc,0,none⟩) n n,.slice (some ⟨bl,0,none⟩) M M,.slice (some ⟨bf,0,none⟩) M M],.bool true])) cs) u2)(y0 y3 y4 y5 y6 y7 y8 y10 y12 y13 y14:Value) :
  zaq Tryz.prog Goal Sh0 (fun _=>False) (G ((base 22).at ⟨#[y0,.pointer (some ⟨bg,0,none⟩),.pointer (some ⟨bs,0,none⟩),y3,y4,y5,y6,y7,y8,.agg #[.int .i64 wd,.slice (some ⟨bc,0,none⟩) n n],y10,.slice (some ⟨bl,0,none⟩) M M,y12,y13,y14],[]⟩ [.inRegion zfR [4,5,6,7,8],.code .ret]) (c::cs)) u0:=by
 refine zaq.way hG (ch:=0) (K:=fun e=>Kc e\/e=bg) (S:=fun _=>False) (l:=(bg,.cells #[.int .i64 wd,.slice ga n cap] 25)::l0) (lx:=[]) (fun p h=>by rcases List.mem_cons.1 h with rfl|h;exact hb;exact hp0 p h) (fun p h=>by rcases List.mem_cons.1 h with rfl|h;exact .inl (.inr rfl);exact .inl (.inl (hl0 p h))) (fun _ h=>by cases h) (fun _ h=>by cases h) (fun _ h=>h.elim) (fun e he=>by rcases he with (he|rfl)|he;exact⟨(hK0 e he).1,(hK0 e he).2,fun h=>h⟩;exact⟨(gei hb).1,hbn,fun h=>h⟩;exact he.elim) ?_
 simp only[zfR,Tryz.f22]
 refine zag.val rfl rfl qi (v:=.agg #[.int .i64 wd,.slice ga n cap]) (fun w hp=>?_) (fun hl w hp e he=>?_) ?_
 ·have c0:=hp.cell mcs 0 rfl
  have c1:=hp.cell mcs 1 rfl
  go_simp
 ·have c0:=hp.cell mcs 0 rfl
  have c1:=hp.cell mcs 1 rfl
  simp[go_sem, *] at he
  rcases he with rfl|rfl
  all_goals exact zaG hl mcs _
 walk_nrm
 refine zag.enter rfl rfl qi (fun w=>run_call_body rfl func37 rfl rfl) (fun w=>events_call_body rfl func37 rfl rfl _) ?_
 walk_nrm
 refine zag.stop fun hl1 w1 hp1 _ hlt1=>?_
 intro hsz1 hnew1 hx1 hKS1 _ hkept1 ht1 ho1 hu1
 have hq:Hp l0 w1:=fun p h=>hp1 p (mcm h)
 exact znT
theorem znS(h:P:=by
  refine zaq.way hG (ch:=0) (K:=Kc) (S:=fun _=>False) (l:=l0) (lx:=[]) hp0 (fun p h=>.inl (hl0 p h)) (fun _ h=>by cases h) (fun _ h=>by cases h) (fun _ h=>h.elim) (fun e he=>⟨(hK0 e (he.elim id fun x=>x.elim)).1,(hK0 e (he.elim id fun x=>x.elim)).2,fun h=>h⟩) ?_
  simp only[zfR,Tryz.f22]
  refine zag.enter rfl rfl qi (fun w=>run_call_body rfl func36 rfl rfl) (fun w=>events_call_body rfl func36 rfl rfl _) ?_
  walk_nrm
  refine zag.stop fun hl1 w1 hp1 _ hlt1=>?_
  intro hsz1 hnew1 hx1 hKS1 _ hkept1 ht1 ho1 hu1
  have hlt:=(gei hs).1
  have hbt:=(gei hb).1
  refine hpic Sh0 _ _ w1 hp1 (fun e he=>⟨by have:=(hK0 e he).1;omega,(hK0 e he).2⟩) fun u bl Sh hk hbl hLo hnl hSh=>?_
  simp only[Frame.finish_at]
  walk_nrm
  obtain⟨a1,a2,a3,a4,a5⟩:=hk
  have hkeep:∀ e o,u0.heap[e]?=some o->¬ Sh0 e->u.heap[e]?=some o/\¬ Sh e:=fun e o q1 q2=>by
   have q3:=(gei q1).1
   exact⟨(a1 e ⟨qg,q2⟩).trans ((hkept1 e q3 (fun h=>h)).trans q1),fun h=>by rcases hSh e h with h|h;exact q2 h;omega⟩
  have hblu:=(gei hLo).1
  first
   | refine zsG hG hl0 hfeet (bl:=bl) (bc:=bc) (n:=n) (fun p h=>(hkeep p.1 p.2 (hp0 p h) (hK0 _ (hl0 p h)).2).1) (fun e he=>⟨by have:=(hK0 e he).1;omega,fun h=>by rcases hSh e h with h|h;exact(hK0 e he).2 h;have:=(hK0 e he).1;omega⟩) (hkeep bs _ hs hsn).1 (hkeep bs _ hs hsn).2 (fun u2 bf xs bsf Sh2 hk2 hF hSh2=>?_) _ _ _ _ _ _ _ _ _ _ _
   | refine zsH hG hl0 hfeet (bl:=bl) (bc:=bc) (n:=n) (fun p h=>(hkeep p.1 p.2 (hp0 p h) (hK0 _ (hl0 p h)).2).1) (fun e he=>⟨by have:=(hK0 e he).1;omega,fun h=>by rcases hSh e h with h|h;exact(hK0 e he).2 h;have:=(hK0 e he).1;omega⟩) (hkeep bs _ hs hsn).1 (hkeep bs _ hs hsn).2 (hkeep bg _ hb hbn).1 (hkeep bg _ hb hbn).2 (fun u2 bf xs bsf Sh2 hk2 hF hSh2=>?_) _ _ _ _ _ _ _ _ _ _ _
  obtain⟨b1,b2,b3,b4,b5⟩:=hk2
  refine hfin u2 bl bf xs bsf Sh2 ⟨fun e he=>?_,b2.trans (a2.trans ht1),b3.trans (a3.trans ho1),b4.trans (a4.trans hu1),qg⟩ qg ((b1 bl ⟨hblu,hnl,qg⟩).trans hLo) (fun h=>by rcases hSh2 bl h with h|h;exact hnl h;omega) (fun k hk3 p hp3 e=>by have:=((hF.row k hk3).2.2 p hp3).1;omega) (by have:=hF.new;omega) (hF.mono qg (fun e o _ q=>q)) (fun e he=>by rcases hSh2 e he with h|h;(rcases hSh e h with h|h;exact .inl h;exact .inr qg);exact .inr qg)
  have h1:¬ Sh e:=fun h=>by rcases hSh e h with h|h;exact he.2.1 h;have:=he.1;omega
  exact((b1 e ⟨by have:=he.1;omega,h1,he.2.2⟩).trans (a1 e ⟨by have:=he.1;omega,he.2.1⟩)).trans (hkept1 e he.1 (fun h=>h))):P:=h
theorem zsE(hG:zba Tryz.prog Goal){M:Nat}(hl0:∀ p∈l0,Kc p.1)(hfeet:ziW Goal wd ga n cap M l0 Kc RowP)(hpic:zrF Goal wd ga n cap M l0 Kc objL)(hp0:Hp l0 u0)(hK0:∀ e,Kc e->e<u0.heap.size/\¬ Sh0 e)(hs:u0.heap[bs]?=some (.cells #[.int .i64 0,.slice none 0 0,.slice none 0 0,.slice none 0 0] 29))(hsn:¬ Sh0 bs)(hb:u0.heap[bg]?=some (.cells #[.int .i64 wd,.slice ga n cap] 25))(hbn:¬ Sh0 bg)(hfin:∀(u2:World) (bl bf:Nat) (xs:Nat->Value) (bsf:Nat->List (Nat × Obj)) (Sh:Nat->Prop),zcb (fun e=>e<u0.heap.size/\¬ Sh0 e/\e≠bs) u0 u2->u0.heap.size<=bl->u2.heap[bl]?=some objL->¬ Sh bl->(∀ k,k<M->∀ p∈bsf k,p.1≠bl)->bl≠bf->zdQ RowP M u0.heap.size u2 bf xs bsf Sh->(∀ e,Sh e->Sh0 e\/u0.heap.size<=e)->zaq Tryz.prog Goal Sh (fun _=>False) (G (c.finish (.tuple #[.agg #[.int .i64 wd,.slice (some ⟨bc,0,none⟩) n n,.slice (some ⟨bl,0,none⟩) M M,.slice (some ⟨bf,0,none⟩) M M],.bool true])) cs) u2)(y0 y3 y4 y5 y6 y7 y8 y11 y13 y14:Value) :
  zaq Tryz.prog Goal Sh0 (fun _=>False) (G ((base 22).at ⟨#[y0,.pointer (some ⟨bg,0,none⟩),.pointer (some ⟨bs,0,none⟩),y3,y4,y5,y6,y7,y8,.agg #[.int .i64 wd,.slice (some ⟨bc,0,none⟩) n n],.agg #[.int .i64 wd,.slice ga n cap],y11,.agg #[.int .i64 wd,.slice ga n cap],y13,y14],[]⟩ [.inRegion zfR [3,5,6,7,8],.code .ret]) (c::cs)) u0:=znS
theorem zsF(hG:zba Tryz.prog Goal){M:Nat}(hl0:∀ p∈l0,Kc p.1)(hfeet:ziW Goal wd ga n cap M l0 Kc RowP)(hpic:zrF Goal wd ga n cap M l0 Kc objL)(hp0:Hp l0 u0)(hK0:∀ e,Kc e->e<u0.heap.size/\¬ Sh0 e)(hs:u0.heap[bs]?=some (.cells #[.int .i64 0,.slice none 0 0,.slice none 0 0,.slice none 0 0] 29))(hsn:¬ Sh0 bs)(hb:u0.heap[bg]?=some (.cells #[.int .i64 wd,.slice ga n cap] 25))(hbn:¬ Sh0 bg)(hfin:∀(u2:World) (bl bf:Nat) (xs:Nat->Value) (bsf:Nat->List (Nat × Obj)) (Sh:Nat->Prop),zcb (fun e=>e<u0.heap.size/\¬ Sh0 e/\e≠bs) u0 u2->u0.heap.size<=bl->u2.heap[bl]?=some objL->¬ Sh bl->(∀ k,k<M->∀ p∈bsf k,p.1≠bl)->bl≠bf->zdQ RowP M u0.heap.size u2 bf xs bsf Sh->(∀ e,Sh e->Sh0 e\/u0.heap.size<=e)->zaq Tryz.prog Goal Sh (fun _=>False) (G (c.finish (.tuple #[.agg #[.int .i64 wd,.slice (some ⟨bc,0,none⟩) n n,.slice (some ⟨bl,0,none⟩) M M,.slice (some ⟨bf,0,none⟩) M M],.bool true])) cs) u2)(y0 y3 y4 y5 y6 y7 y8 y11 y12 y13 y14:Value) :
  zaq Tryz.prog Goal Sh0 (fun _=>False) (G ((base 22).at ⟨#[y0,.pointer (some ⟨bg,0,none⟩),.pointer (some ⟨bs,0,none⟩),y3,y4,y5,y6,y7,y8,.agg #[.int .i64 wd,.slice (some ⟨bc,0,none⟩) n n],.agg #[.int .i64 wd,.slice ga n cap],y11,y12,y13,y14],[]⟩ [.inRegion zfR [3,4,5,6,7,8],.code .ret]) (c::cs)) u0:=znS
end
end
section
open Go Go.Conc
section
variable{M:Program}{main:Bool}{Live:World->Prop}{Ex:Event->Prop}{Stop:Nat->(Nat->Prop)->Goroutine->World->Prop}{Snd:Nat->(Nat->Prop)->Value->World->Prop}{ch:Nat}{K:Nat->Prop}{l:List (Nat × Obj)}{σ:Nat}{S:Nat->Prop}
theorem zag.callM{L:Program}[T:zaA L M][zaA L L](W:Whole L)(B:Bodies L M X)(hLv:∀ w w':World,(∀ c,Lv c->w'.heap[c]?=w.heap[c]?)->Live w->Live w')(hlv:∀ w c,Live w->Lv c->c<w.heap.size)(hX:zk7 L X){fn:Func}(hf:L.funcs[f]?=some fn)(hb:fn.body.isSome=true)(hnX:¬ X f){a:Array Value}(hP:∀ w0 v w τ d,Post w0 v w->Post w0 v (w.tp τ d))(hKc:∀ c,Kc c->K c)(hcl:∀ w,Hp l w->Closed Kc w)(ha:zat (zeA Kc) a a)(hC:∀ w,Hp l w->∀ τ d,Calls L f a (w.frz.tp τ d) fun e w'=>∃ v,e=.returned v/\Post w v w'){c:Frame}{cs:List Frame}(hgo:∀ w0 v v' S' R wl w₁,Hp l w0->Hp l w₁->Post w0 v wl->zaj R v v'->za9 w0.heap.size R wl w₁->S'=zby w0.heap.size R->(∀ c,S' c->w0.heap.size<=c)->(∀ c,K c\/S c->c<w0.heap.size)->Live w₁->(∀ c,K c\/S c\/S' c->c<w₁.heap.size) ->
   zaW M main Live Ex Stop Snd ch K σ (fun c=>S c\/S' c) (G (c.finish v') cs) w₁) :
  zag M main Live Ex Stop Snd ch K l σ S (G (Frame.enter M f a .normal) (c::cs)):=by
 intro hl w hp hL hlt
 refine zhS (Post:=Post w) (Lv:=Lv) W B hLv hX hf hb hnX (hP w) hKc (hcl w hp) ha hlt (fun c hc=>hlv w c hL hc) (hC w hp) ?_
 rintro v' w₁ S' hs hnew ⟨R,wl,v,hv,hw,hpost,hS'⟩
 refine hgo w v v' S' R wl w₁ hp (hp.sees hl hs) hpost hv hw hS' hnew hlt (hs.live hL) fun c hc=>?_
 rcases hc with hc|hc|hc
 ·exact nll (hlt c (Or.inl hc)) hs.size
 ·exact nll (hlt c (Or.inr hc)) hs.size
 ·rw[hS'] at hc
  obtain⟨x,hx,_⟩:=hc
  exact(hw.lt hx).2
end
theorem zag.callMb{L M:Program}{main:Bool}{Live:World->Prop}{Ex:Event->Prop}{Stop:Nat->(Nat->Prop)->Goroutine->World->Prop}{Snd:Nat->(Nat->Prop)->Value->World->Prop}{ch:Nat}{K:Nat->Prop}{l:List (Nat × Obj)}{σ:Nat}{S:Nat->Prop}[T:zaA L M][zaA L L](W:Whole L)(B:Bodies L M X)(hLv:∀ w w':World,(∀ c,Lv c->w'.heap[c]?=w.heap[c]?)->Live w->Live w')(hlv:∀ w c,Live w->Lv c->c<w.heap.size)(hX:zk7 L X){fn:Func}(hf:L.funcs[f]?=some fn)(hb:fn.body.isSome=true)(hnX:¬ X f){a:Array Value}(hP:∀ w0 v w τ d,Post w0 v w->Post w0 v (w.tp τ d))(hKc:∀ c,Kc c->K c)(hcl:∀ w,Hp l w->Closed Kc w)(ha:zat (zeA Kc) a a)(hC:∀ w,Hp l w->∀ τ d,Calls L f a (w.frz.tp τ d) fun e w'=>∃ v,e=.returned v/\Post w v w')(hQ:∀ w0 v v' R wl w₁,Post w0 v wl->zaj R v v'->za9 w0.heap.size R wl w₁->∃ bs,Q v' bs/\Hp bs w₁/\∀ p∈bs,zby w0.heap.size R p.1){c:Frame}{cs:List Frame}(hn:∀(S':Nat->Prop) (v':Value) (bs:List (Nat × Obj)),Q v' bs->(∀ p∈bs,S' p.1/\¬ K p.1/\¬ S p.1)->(∀ p∈l,K p.1\/S p.1)->zag M main Live Ex Stop Snd ch K (bs++l) σ (fun c=>S c\/S' c) (G (c.finish v') cs)) :
  zag M main Live Ex Stop Snd ch K l σ S (G (Frame.enter M f a .normal) (c::cs)):=by
 intro hl
 refine zag.callM (Lv:=Lv) (Kc:=Kc) W B hLv hlv hX hf hb hnX hP hKc hcl ha hC ?_ hl
 intro w0 v v' S' R wl w₁ _ hp1 hpost hv hw hS' hnew hlt hL hlt1
 obtain⟨bs,hq,hbs,hown⟩:=hQ w0 v v' R wl w₁ hpost hv hw
 have hS2:∀ p∈bs,S' p.1:=fun p h=>by rw[hS'];exact hown p h
 refine hn S' v' bs hq (fun p h=>⟨hS2 p h,fun q=>?_,fun q=>?_⟩) hl (fun p h=>?_) w₁ (fun p h=>?_) hL (fun c hc=>hlt1 c (hc.imp id fun x=>x))
 ·have h1:=hlt p.1 (.inl q);have h2:=hnew p.1 (hS2 p h);omega
 ·have h1:=hlt p.1 (.inr q);have h2:=hnew p.1 (hS2 p h);omega
 ·rcases List.mem_append.1 h with h|h
  ·exact .inr (.inr (hS2 p h))
  ·exact(hl p h).imp id .inl
 ·rcases List.mem_append.1 h with h|h
  ·exact hbs p h
  ·exact hp1 p h
