/- Part. -/
import Derived.Conc.CompanyDraw
import Derived.Test.YthfhlgdeghnggaaGreatEAg
set_option maxHeartbeats 4000000
set_option maxRecDepth 100000
set_option linter.unusedVariables false
namespace Go.Proofs.YthfhlgdeghnggaaGreat
variable{f:FuncId}{X:FuncId->Prop}{wd:Int}{rs:List (List Nat)}{l0:List (Nat × Obj)}{bc bg bl bs cap n:Nat}{bsf:Nat->List (Nat × Obj)}{xs:Nat->Value}{RowP:Nat->Value->List (Nat × Obj)->Prop}{Kc Sh Sh0:Np}{objL:Obj}{ga:Od}{P:Prop}{Q:Value->List (Nat × Obj)->Prop}{u u0:World}{Post:World->Value->Wq}
open Tryz
namespace R2
open Go Go.Conc Go.ConcN Go.RowKit Go.Conc.Lib Go.ConcR.Gen Go.ConcN.Gen
open Go.ConcR (KK wgBlock WgAt stA smA rd wr mk Payload Aside2 DC0)
def zt9(RowP:Nat->Value->List (Nat × Obj)->Prop):Nat->Np->Value->Wq:=fun k S v w=>∃ x bs,v=.agg #[J k,x]/\RowP k x bs/\Hp bs w/\∀ p∈bs,S p.1
theorem zs8(RowP:Nat->Value->List (Nat × Obj)->Prop):zdV (zt9 RowP):=fun _ _ _ _ _ h ⟨x,bs,e,h1,h2,h3⟩=>⟨x,bs,e,h1,fun p hp=>(h p.1 (h3 p hp)).trans (h2 p hp),h3⟩
theorem zge(h:P:=by
  have hLa:∀(w:World) (o:Obj),(fun _:World=>True) w->(fun _:World=>True) (w.alloc o):=fun _ _ h=>h
  refine zau.way hG (ch:=0) (K:=Kc) (S:=fun _=>False) (l:=l0) (lx:=[]) hp0 (fun p h=>.inl (hl0 p h)) (fun _ h=>by cases h) (fun _ h=>by cases h) (fun _ h=>h.elim) (fun c hc=>⟨(hKc c (hc.elim id fun x=>x.elim)).1,(hKc c (hc.elim id fun x=>x.elim)).2,fun h=>h⟩) ?_
  rw[enter_at _ hRf rfl]
  simp only[Tryz.f84,Tryz.f74]
  walk_nrm
  refine zah.sq ?_
  refine zah.rg ?_
  simp only[rgs,Nat.reduceAdd]
  refine zah.new hLa rfl rfl qj (V:=fun c=>.pointer (xA c)) (obj:=.cells (xG wd ga n cap) 33) (fun w hp=>qq) (fun _ w hp e he=>by simp[go_sem] at he) fun bg hK_bg hS_bg=>?_
  walk_nrm
  refine zah.new hLa rfl rfl qj (V:=fun c=>.pointer (xA c)) (obj:=.cells #[.func (.func fr) #[] #[]] tF) (fun w hp=>qq) (fun _ w hp e he=>by simp[go_sem] at he) fun br hK_br hS_br=>?_
  walk_nrm
  refine zah.va (v:=.slice none 0 0) ?_
  walk_nrm
  refine zah.re ?_
  refine zah.sq ?_
  refine zah.sq ?_
  refine zah.rg ?_
  simp only[rgs,Nat.reduceAdd]
  refine zah.val rfl rfl qj (v:=.agg (xG wd ga n cap)) (fun w hp=>?_) (fun hl w hp e he=>?_) ?_
  ·have c0:=hp.cell (mcm mcs) 0 rfl
   have c1:=hp.cell (mcm mcs) 1 rfl
   go_simp
  ·have c0:=hp.cell (mcm mcs) 0 rfl
   have c1:=hp.cell (mcm mcs) 1 rfl
   simp[go_sem, *] at he
   rcases he with rfl|rfl
   all_goals exact zaM hl (mcm mcs) _
  walk_nrm
  have hcl1:∀ w,Hp ((br,.cells #[.func (.func fr) #[] #[]] tF)::(bg,.cells (xG wd ga n cap) 33)::l0) w->Closed Kc w:=fun w hp=>hcl w fun p h=>hp p (mcm (mcm h))
  refine zah.enter rfl rfl qj (fun w=>run_call_body rfl func71 rfl rfl) (fun w=>events_call_body rfl func71 rfl rfl _) ?_
  walk_nrm
  refine zah.callv (Kc:=Kc) (Lv:=fun _=>False) W B (fun _ _ _ _=>trivial) (fun _ _ _ h=>h.elim) hX hf3 rfl hx3 qh (v0:=.bool true) (fun _ _ h=>zcK h) (fun _ h=>h) hcl1 (zcG _ hga) (fun w hp=>hok w fun p h=>hp p (mcm (mcm h))) fun S1=>?_
  simp only[Frame.finish_at]
  walk_nrm
  refine zah.va (v:=.bool false) ?_
  walk_nrm
  refine zah.re ?_
  refine zah.ctl rfl (fun _=>stepG_cond (t:=false) rfl) ?_
  simp only[Bool.false_eq_true,↓reduceIte]
  refine zah.ctl rfl (fun _=>stepG_skip) ?_
  refine zah.sq ?_
  refine zah.rg ?_
  simp only[rgs,Nat.reduceAdd]
  refine zah.val rfl rfl qj (v:=.agg (xG wd ga n cap)) (fun w hp=>?_) (fun hl w hp e he=>?_) ?_
  ·have c0:=hp.cell (mcm mcs) 0 rfl
   have c1:=hp.cell (mcm mcs) 1 rfl
   go_simp
  ·have c0:=hp.cell (mcm mcs) 0 rfl
   have c1:=hp.cell (mcm mcs) 1 rfl
   simp[go_sem, *] at he
   rcases he with rfl|rfl
   all_goals exact zaM hl (mcm mcs) _
  walk_nrm
  refine zah.enter rfl rfl qj (fun w=>run_call_body rfl func85 rfl rfl) (fun w=>events_call_body rfl func85 rfl rfl _) ?_
  walk_nrm
  refine zah.callv (Kc:=Kc) (Lv:=fun _=>False) W B (fun _ _ _ _=>trivial) (fun _ _ _ h=>h.elim) hX hf4 rfl hx4 qh (v0:=J many) (fun _ _ h=>zc0 h) (fun _ h=>h) hcl1 (zcG _ hga) (fun w hp=>hmany w fun p h=>hp p (mcm (mcm h))) fun S1=>?_
  simp only[Frame.finish_at]
  walk_nrm
  refine zah.va (v:=J many) ?_
  walk_nrm
  refine zah.re ?_
  refine zah.sq ?_
  refine zah.rg ?_
  simp only[rgs,Nat.reduceAdd]
  refine zah.va (v:=J many) ?_
  walk_nrm
  refine zah.stop fun hl w1 hp1 _ hlt1=>?_
  intro hsz hnew _ hKS _ hkept ht ho hu
  refine zau.quiet hG (U':=fun _=>False) rfl (V:=fun d=>(w1.at d).alloc (.chan many #[] false 0 0 false)) (fun d=>by simp[World.at]) (fun d=>ze7 (v:=.chan (some w1.heap.size)) rfl rfl qj (by exact(zlV (w:=w1.at d) (n:=many) rfl rfl uC yW qg (by simp only[zgc];omega)).1) (by exact(zlV (w:=w1.at d) (n:=many) rfl rfl uC yW qg (by simp only[zgc];omega)).2)) (fun _ h=>h.elim) fun d=>?_
  obtain⟨ch,hch⟩:∃ ch,ch=w1.heap.size:=⟨_,rfl⟩
  have hchs:ch=(w1.at d).heap.size:=hch
  rw[<- hch]
  have hp2:Hp ((br,.cells #[.func (.func fr) #[] #[]] tF)::(bg,.cells (xG wd ga n cap) 33)::l0) ((w1.at d).alloc (.chan many #[] false 0 0 false)):=fun p h=>(hp1.on d).new (.chan many #[] false 0 0 false) p (mcm h)
  have hxw2:Hp [(ch,.chan many #[] false 0 0 false)] ((w1.at d).alloc (.chan many #[] false 0 0 false)):=fun p h=>by rw[hchs] at h;exact(hp1.on d).new (.chan many #[] false 0 0 false) p (by simp at h;subst h;exact mcs)
  obtain⟨w2,hw2⟩:∃ w2,w2=(w1.at d).alloc (.chan many #[] false 0 0 false):=⟨_,rfl⟩
  have hsz2:w2.heap.size=ch+1:=by rw[hw2,hch];simp[World.at]
  have hk2:∀ e,e<w1.heap.size->w2.heap[e]?=w1.heap[e]?:=fun e he=>by rw[hw2];exact(zbv (w1.at d) _).2 e he
  have ht2:w2.tape=w1.tape/\w2.os=w1.os/\w2.output=w1.output:=by rw[hw2];exact⟨rfl,rfl,rfl⟩
  rw[<- hw2] at hp2 hxw2 ⊢
  clear hw2 hchs
  walk_nrm
  have hbgl:bg<w1.heap.size:=hlt1 bg (.inr qm)
  have hbrl:br<w1.heap.size:=hlt1 br (.inr qm)
  have hK1:∀ p∈(br,.cells #[.func (.func fr) #[] #[]] tF)::(bg,.cells (xG wd ga n cap) 33)::l0,Kc p.1\/p.1=bg\/p.1=br:=fun p h=>by
   rcases List.mem_cons.1 h with rfl|h
   ·exact .inr (.inr rfl)
   ·rcases List.mem_cons.1 h with rfl|h
    ·exact .inr (.inl rfl)
    ·exact .inl (hl0 p h)
  refine zau.way hG (ch:=0) (K:=fun d=>Kc d\/d=bg\/d=br) (S:=fun _=>False) (l:=(br,.cells #[.func (.func fr) #[] #[]] tF)::(bg,.cells (xG wd ga n cap) 33)::l0) (lx:=[(ch,.chan many #[] false 0 0 false)]) hp2 (fun p h=>.inl (hK1 p h)) hxw2 (fun _ _ h=>h) (fun _ h=>h.elim) (fun d hd=>?_) ?_
  ·rcases hd with (hd|rfl|rfl)|hd
   ·exact⟨by have:=(hKc d hd).1;omega,(hKc d hd).2,fun h=>h⟩
   ·exact⟨qg,(hKS _ (.inr qm)).2.1,fun h=>h⟩
   ·exact⟨qg,(hKS _ (.inr qm)).2.1,fun h=>h⟩
   ·exact hd.elim
  refine zah.new hLa rfl rfl qj (V:=fun c=>.pointer (xA c)) (obj:=.cells #[.chan none] tC) (fun w hp=>qq) (fun _ w hp e he=>by simp[go_sem] at he) fun bc hK_bc hS_bc=>?_
  walk_nrm
  refine zah.put (l':=(bc,.cells #[.chan (some ch)] tC)::(br,.cells #[.func (.func fr) #[] #[]] tF)::(bg,.cells (xG wd ga n cap) 33)::l0) (c:=bc) (obj:=.cells #[.chan (some ch)] tC) rfl rfl qj (.inr rfl) (fun _ _ _ h=>h) (fun w hp=>⟨_,zlW (ty:=tC) rfl rfl rfl rfl rfl (hp.at mcs) zeR qm,(zaH (hp.at mcs)).1,(zaH (hp.at mcs)).2⟩) (fun _ w hp e he=>?_) (fun p hp=>?_) ?_
  ·obtain⟨q,rfl⟩:=zol (ty:=tC) rfl rfl rfl rfl rfl (hp.at mcs) zeR qm e he
   exact Or.inl ⟨_,_,rfl,Or.inl (Or.inr rfl)⟩
  ·rcases List.mem_cons.1 hp with rfl|hp
   ·exact .inl rfl
   ·exact .inr ⟨mcm hp,fun e=>hK_bc (e ▸ hK1 p hp)⟩
  walk_nrm
  refine zah.re ?_
  refine zah.sq ?_
  refine zah.rg ?_
  simp only[rgs]
  refine zah.stop fun hl3 w3 hp3 _ hlt3=>?_
  intro hsz3 hnew3 hx3' hKS3 _ hkept3 ht3 ho3 hu3
  refine zau.quiet hG (U':=fun e=>e=w3.heap.size) rfl (V:=fun d=>(w3.at d).alloc (.cells #[.int .u64 0,.int .u32 0] 134)) (fun d=>by simp[World.at]) (fun d=>ze7 (v:=.pointer (xA w3.heap.size)) rfl rfl qj (by go_simp;rfl) ql) (fun e h=>.inr (Nat.le_of_eq h.symm)) fun d=>?_
  obtain⟨Wg,hWg⟩:∃ Wg,Wg=w3.heap.size:=⟨_,rfl⟩
  have hWgs:Wg=(w3.at d).heap.size:=hWg
  rw[<- hWg]
  have hp4:Hp ((bc,.cells #[.chan (some ch)] tC)::(br,.cells #[.func (.func fr) #[] #[]] tF)::(bg,.cells (xG wd ga n cap) 33)::l0) ((w3.at d).alloc (.cells #[.int .u64 0,.int .u32 0] 134)):=fun p h=>(hp3.on d).new (.cells #[.int .u64 0,.int .u32 0] 134) p (mcm h)
  have hx4':Hp [(Wg,.cells #[.int .u64 0,.int .u32 0] 134),(ch,.chan many #[] false 0 0 false)] ((w3.at d).alloc (.cells #[.int .u64 0,.int .u32 0] 134)):=fun p h=>by rw[hWgs] at h;exact(hx3'.on d).new (.cells #[.int .u64 0,.int .u32 0] 134) p h
  obtain⟨w4,hw4⟩:∃ w4,w4=(w3.at d).alloc (.cells #[.int .u64 0,.int .u32 0] 134):=⟨_,rfl⟩
  have hsz4:w4.heap.size=Wg+1:=by rw[hw4,hWg];simp[World.at]
  have hk4:∀ e,e<w3.heap.size->w4.heap[e]?=w3.heap[e]?:=fun e he=>by rw[hw4];exact(zbv (w3.at d) _).2 e he
  have ht4:w4.tape=w3.tape/\w4.os=w3.os/\w4.output=w3.output:=by rw[hw4];exact⟨rfl,rfl,rfl⟩
  rw[<- hw4] at hp4 hx4' ⊢
  clear hw4 hWgs
  walk_nrm
  have hbcl:bc<w3.heap.size:=hlt3 bc (.inr (.inr rfl))
  have hK2:∀ p∈(bc,.cells #[.chan (some ch)] tC)::(br,.cells #[.func (.func fr) #[] #[]] tF)::(bg,.cells (xG wd ga n cap) 33)::l0,Kc p.1\/p.1=bg\/p.1=br\/p.1=bc:=fun p h=>by
   rcases List.mem_cons.1 h with rfl|h
   ·exact .inr (.inr (.inr rfl))
   ·rcases hK1 p h with h|h|h
    ·exact .inl h
    ·exact .inr (.inl h)
    ·exact .inr (.inr (.inl h))
  have hShb:¬ Shun bg/\¬ Shun br/\¬ Shun bc:=⟨(hKS _ (.inr qm)).2.1,(hKS _ (.inr qm)).2.1,(hKS3 bc (.inr (.inr rfl))).2.1⟩
  have hchlt:ch<w3.heap.size:=qg
  refine zau.way hG (ch:=0) (K:=fun d=>Kc d\/d=bg\/d=br\/d=bc) (S:=fun _=>False) (l:=(bc,.cells #[.chan (some ch)] tC)::(br,.cells #[.func (.func fr) #[] #[]] tF)::(bg,.cells (xG wd ga n cap) 33)::l0) (lx:=[(Wg,.cells #[.int .u64 0,.int .u32 0] 134),(ch,.chan many #[] false 0 0 false)]) hp4 (fun p h=>.inl (hK2 p h)) hx4' (fun _ _ h=>h) (fun e h=>qg) (fun d hd=>?_) ?_
  ·rcases hd with (hd|rfl|rfl|rfl)|hd
   ·have:=hKc d hd;exact⟨qg,this.2,qg⟩
   ·exact⟨qg,hShb.1,qg⟩
   ·exact⟨qg,hShb.2.1,qg⟩
   ·exact⟨qg,hShb.2.2,qg⟩
   ·exact hd.elim
  refine zah.re ?_
  refine zah.sq ?_
  refine zah.sq ?_
  refine zah.rg ?_
  simp only[rgs,Nat.reduceAdd]
  refine zah.val rfl rfl qj (v:=.agg (xG wd ga n cap)) (fun w hp=>?_) (fun hl w hp e he=>?_) ?_
  ·have c0:=hp.cell (mcm (mcm mcs)) 0 rfl
   have c1:=hp.cell (mcm (mcm mcs)) 1 rfl
   go_simp
  ·have c0:=hp.cell (mcm (mcm mcs)) 0 rfl
   have c1:=hp.cell (mcm (mcm mcs)) 1 rfl
   simp[go_sem, *] at he
   rcases he with rfl|rfl
   all_goals exact zaM hl (mcm (mcm mcs)) _
  walk_nrm
  have hcl2:∀ w,Hp ((bc,.cells #[.chan (some ch)] tC)::(br,.cells #[.func (.func fr) #[] #[]] tF)::(bg,.cells (xG wd ga n cap) 33)::l0) w->Closed Kc w:=fun w hp=>hcl w (fun p h=>hp p (mcm (mcm (mcm h))))
  refine zah.enter rfl rfl qj (fun w=>run_call_body rfl func86 rfl rfl) (fun w=>events_call_body rfl func86 rfl rfl _) ?_
  walk_nrm
  refine zah.callw (Kc:=Kc) (Lv:=fun _=>False) W B (fun _ _ _ _=>trivial) (fun _ _ _ h=>h.elim) hX hf5 rfl hx5 (v0:=.agg #[J (f0 0:Int),J x1,J x2,J x3,J x4,J x5,J (f0 1:Int),J x7,J x8,J x9,J x10,J x11,J (f0 2:Int),J x13,J x14,J x15,J x16,J x17,J (f0 3:Int),J x19,J x20,J x21,J x22,J x23]) (fun _ _ h=>znF h) (fun _ h=>.inl h) hcl2 (zcG _ hga) (fun w hp=>hsides w (fun p h=>hp p (mcm (mcm (mcm h))))) fun S1=>?_
  simp only[Frame.finish_at]
  walk_nrm
  refine zah.va (v:=J 0) ?_
  walk_nrm
  refine zah.re ?_
  refine zah.ctl rfl (fun _=>stepG_block) ?_
  refine zah.ctl rfl (fun _=>stepG_loop) ?_
  refine zah.stop fun hl5 w5 hp5 _ hlt5=>?_
  intro hsz5 hnew5 hx5' hKS5 hU5 hkept5 ht5 ho5 hu5
  obtain⟨B5,hB5⟩:∃ B5:Np,B5=fun e=>e<w.heap.size/\¬ Shun e:=⟨_,rfl⟩
  obtain⟨Q5,hQ5⟩:∃ Q5:Wq,Q5=fun u=>(∀ e,B5 e->u.heap[e]?=w.heap[e]?)/\u.tape=w.tape/\u.os=w.os/\u.output=w.output/\w.heap.size<=u.heap.size:=⟨_,rfl⟩
  have hQ:zlh B5 Q5:=by
   rw[hQ5]
   exact fun u u1 h1 h2 h3 h4 h5 ⟨a1,a2,a3,a4,a5⟩=>⟨fun e he=>(h2 e he).trans (a1 e he),h3.trans a2,h4.trans a3,h5.trans a4,Nat.le_trans a5 h1⟩
  have hq5:Q5 w5:=by
   rw[hQ5,hB5]
   refine⟨fun e he=>?_,?_,?_,?_,qg⟩
   ·have e1:=he.1
    rw[hkept5 e qg (fun h=>h),hk4 e qg,hkept3 e qg (fun h=>h),hk2 e qg,hkept e e1 (fun h=>h)]
   ·rw[ht5,ht4.1,ht3,ht2.1,ht]
   ·rw[ho5,ht4.2.1,ho3,ht2.2.1,ho]
   ·rw[hu5,ht4.2.2,hu3,ht2.2.2,hu]
  have hBl:∀ e,B5 e->e<w.heap.size/\¬ Shun e:=fun e he=>by rw[hB5] at he;exact he
  have hKB:∀ p∈(bc,.cells #[.chan (some ch)] tC)::(br,.cells #[.func (.func fr) #[] #[]] tF)::(bg,.cells (xG wd ga n cap) 33)::l0,B5 p.1\/p.1=bg\/p.1=br\/p.1=bc:=fun p h=>(hK2 p h).imp (fun x=>by rw[hB5];exact hKc _ x) id
  have hbgw:w.heap.size<=bg/\w.heap.size<=br:=⟨by rcases hnew bg qm with h|h;exact h.elim;exact h,by rcases hnew br qm with h|h;exact h.elim;exact h⟩
  have hbcw:ch+1<=bc:=by rcases hnew3 bc (.inr rfl) with h|h;exact h.elim;omega
  have hlt6:∀ e,(B5 e\/e=bg\/e=br\/e=bc)\/False->e<w5.heap.size/\e≠Wg/\e≠ch/\¬ Shun e:=by
   rintro e ((he|rfl|rfl|rfl)|he)
   ·have:=hBl e he;exact⟨qg,qg,qg,this.2⟩
   ·exact⟨qg,qg,qg,hShb.1⟩
   ·exact⟨qg,qg,qg,hShb.2.1⟩
   ·exact⟨qg,qg,qg,hShb.2.2⟩
   ·exact he.elim
  have hlive:zal 134 Wg ch w5:=⟨⟨0,0,hx5'.at (c:=Wg) mcs⟩,_,_,_,_,_,hx5'.at (c:=ch) (mcm mcs)⟩
  have hchi:∀(f e i:Nat) (y1 y2 y3 y4 y5:Int),(e:Int)=f+y1->0<=y1->i<4->f=f0 i->e=e0 i->(∀(k:Nat) (w:World),Calls L 115 #[.agg #[J (f:Int),J y1,J y2,J y3,J y4,J y5],J k] w fun e _=>e=.returned (.bool (decide ((f:Int)<=k/\(k:Int)<f+y1))))->∀(K:Np) (bs:Nat) (l':List (Nat × Obj)),(bs,.cells #[J (f:Int),J y1,J y2,J y3,J y4,J y5] 136)∈l'->(∀ p∈(bc,.cells #[.chan (some ch)] tC)::(br,.cells #[.func (.func fr) #[] #[]] tF)::(bg,.cells (xG wd ga n cap) 33)::l0,p∈l')->(∀ p∈l',K p.1)->∀ w,Hp l' w->zal 134 Wg ch w->(∀ c,K c->c<w.heap.size)->∃ rc,Sit Tryz.prog 134 Wg ch (zt9 RowP) K (fun _=>False) f e ⟨7,0,0⟩ rc (born Tryz.prog (zcs fC Wg bg bs br bc)) w:=by
   intro f e i y1 y2 y3 y4 y5 hx hm hi ef ee hhas K bs l' h1 h2 h3 w hp hL hlt
   have sub:∀ p∈l0,p∈l':=fun p h=>h2 p (mcm (mcm (mcm h)))
   have hway:=zmu I0 (Wg:=Wg) (K:=K) (S:=fun _=>False) (Snd:=zt9 RowP) (fin:=e) W B hX hf1 hx1 hf2 hm2 hb2 hn2 hx2 hr2 (h2 _ (mcm (mcm mcs))) h1 (h2 _ (mcm mcs)) (h2 _ mcs) (fun d hd=>by obtain⟨p,hp,rfl⟩:=hKl d hd;exact h3 p (sub p hp)) (fun w hp=>hcl w fun p h=>hp p (sub p h)) hga hx hm (by have:=he1 i hi;omega) hhas (fun k h1 h2 w hp=>hrk k (by have:=he1 i hi;omega) w fun p h=>hp p (sub p h)) hPt hPr hRs (fun k S w x bs _ _ q1 q2 q3=>⟨x,bs,rfl,q1,q2,q3⟩)
   obtain⟨rc,hr⟩:=hway (fun p h=>.inl (h3 p h)) w hp hL (fun d hd=>hlt d (hd.elim id fun x=>x.elim))
   exact⟨rc,.work hr⟩
  refine zau.phase (ty:=134) (Wg:=Wg) (ch:=ch) (Snd:=zt9 RowP) (K:=fun e=>B5 e\/e=bg\/e=br\/e=bc) (S:=fun _=>False) (Post:=zr4 fR bR Wg ch B5 Q5 ((bc,.cells #[.chan (some ch)] tC)::(br,.cells #[.func (.func fr) #[] #[]] tF)::(bg,.cells (xG wd ga n cap) 33)::l0) (.agg (xG wd ga n cap)) (.func (.func fr) #[] #[]) many bg br bc c cs (.agg #[J (f0 0:Int),J x1,J x2,J x3,J x4,J x5,J (f0 1:Int),J x7,J x8,J x9,J x10,J x11,J (f0 2:Int),J x13,J x14,J x15,J x16,J x17,J (f0 3:Int),J x19,J x20,J x21,J x22,J x23])) (Anch:=zcb fR bR Wg ch B5 Q5 ((bc,.cells #[.chan (some ch)] tC)::(br,.cells #[.func (.func fr) #[] #[]] tF)::(bg,.cells (xG wd ga n cap) 33)::l0) (.agg (xG wd ga n cap)) (.func (.func fr) #[] #[]) many bg br bc c cs _) hG (zs8 RowP) (m:=4) qj qj (f0:=f0) (e0:=e0) hrng hcap (hx5'.at (c:=Wg) mcs) (hx5'.at (c:=ch) (mcm mcs)) qg rfl (fun _ h=>h.elim) hlt6 zgR (ziE I0 hQ ?_) (fun j0=>zkY I0 rfl hQ (hchi _ _ 0 _ _ _ _ _ hx_0 hm_0 qj rfl rfl hhas_0) (hchi _ _ 1 _ _ _ _ _ hx_1 hm_1 qj rfl rfl hhas_1) (hchi _ _ 2 _ _ _ _ _ hx_2 hm_2 qj rfl rfl hhas_2) (hchi _ _ 3 _ _ _ _ _ hx_3 hm_3 qj rfl rfl hhas_3) (fun e he=>.inl he) (fun e he h=>?_) _ _ _ _ _ _ (fun p h=>.inl (hKB p h)) w5 hp5 hlive hq5 (fun e he=>(hlt6 e he).1) j0) ?_
  ·rintro (h|⟨p,hp,h⟩)
   ·have:=(hBl _ h).1;omega
   ·rcases hKB p hp with q|q|q|q
    ·have:=(hBl _ q).1;omega
    all_goals omega
  ·have:=hlt6 e he
   rcases h with h|h
   ·exact this.2.1 h
   ·exact this.2.2.1 h
  intro a w6 Kf Sf cap6 buf s6 r6 tm6 GG hP hc6 hb1 hb2 hltf hGG hGGd
  obtain⟨v9,v23,v24,v25,v26,hB6,⟨hq6,hp6,_⟩,mm,hgo⟩:=hP
  rw[hQ5] at hq6
  have hbc6:=hltf bc (hB6 bc (.inr ⟨_,mcs,rfl⟩))
  have hch6:ch<w6.heap.size:=(gei hc6).1
  refine zau.way hG (ch:=0) (K:=fun e=>e=bc) (S:=fun _=>False) (l:=[(bc,.cells #[.chan (some ch)] tC)]) (lx:=[(ch,.chan cap6 buf false s6 r6 tm6)]) (fun p h=>by simp at h;subst h;exact hp6.at mcs) (fun p h=>by simp at h;subst h;exact .inl rfl) (fun p h=>by simp at h;subst h;exact hc6) (fun _ _ h=>h) (fun _ h=>h.elim) (fun e he=>?_) ?_
  ·rcases he with rfl|he
   ·exact⟨hbc6.1,fun h=>h.elim hbc6.2.1 hShb.2.2,fun h=>h⟩
   ·exact he.elim
  refine zah.goes ?_ mm hgo
  refine zah.re ?_
  refine zah.sq ?_
  refine zah.rg ?_
  simp only[rgs,Nat.reduceAdd]
  refine zah.val rfl rfl qj (v:=.chan (some ch)) (fun w hp=>?_) (fun hl w hp e he=>?_) ?_
  ·have c0:=hp.cell mcs 0 rfl
   go_simp
  ·have c0:=hp.cell mcs 0 rfl
   simp[go_sem, *] at he
   subst he
   exact zaM hl mcs _
  walk_nrm
  refine zah.stop fun hl7 w7 hp7 _ hlt7=>?_
  intro hsz7 hnew7 hx7 hKS7 _ hkept7 ht7 ho7 hu7
  have hch7:ch<w7.heap.size:=qg
  refine zau.close hG rfl (hx7.at mcs) (fun d=>stepG_close rfl rfl qj rfl rfl ((hx7.on d).at mcs) qh) fun d=>?_
  obtain⟨w8,hw8⟩:∃ w8,w8=(w7.at d).setChan ch cap6 buf true s6 r6 tm6:=⟨_,rfl⟩
  have hc8:w8.heap[ch]?=some (.chan cap6 buf true s6 r6 tm6):=by rw[hw8];simp[World.setChan,World.at,hch7]
  have hk8:∀ e,e≠ch->w8.heap[e]?=w7.heap[e]?:=fun e he=>by rw[hw8];exact zbA (w7.at d) cap6 buf true s6 r6 tm6 he
  have hs8:w8.heap.size=w7.heap.size/\w8.tape=w7.tape/\w8.os=w7.os/\w8.output=w7.output:=by rw[hw8];exact⟨by simp[World.setChan,World.at],rfl,rfl,rfl⟩
  rw[<- hw8]
  clear hw8
  walk_nrm
  refine zau.way hG (ch:=0) (K:=fun e=>e=bc) (S:=fun _=>False) (l:=[(bc,.cells #[.chan (some ch)] tC)]) (lx:=[(ch,.chan cap6 buf true s6 r6 tm6)]) (fun p h=>by simp at h;subst h;rw[hk8 _ qg];exact hp7.at mcs) (fun p h=>by simp at h;subst h;exact .inl rfl) (fun p h=>by simp at h;subst h;exact hc8) (fun _ _ h=>h) (fun _ h=>h.elim) (fun e he=>?_) ?_
  ·rcases he with rfl|he
   ·exact⟨qg,fun h=>h.elim hbc6.2.1 hShb.2.2,fun h=>h⟩
   ·exact he.elim
  refine zah.re ?_
  refine zah.sq ?_
  refine zah.rg ?_
  simp only[rgs,Nat.reduceAdd]
  refine zah.va (v:=J many) ?_
  walk_nrm
  refine zah.new hLa rfl rfl qj (V:=fun e=>.slice (xA e) many many) (obj:=.cells (madeCells (Value.cells zE) (many * oE.size)) tE) (fun w hp=>ztQ rfl rfl rfl uL yE zf2 (by simp only[zdE];omega) qg) (fun _ w hp e he=>by rw[zur rfl rfl rfl uL yE zf2 (by simp only[zdE];omega) qg (by simp only[zdE,roomBytes];omega)] at he;simp at he) fun bo hK_bo hS_bo=>?_
  walk_nrm
  refine zah.va (v:=.slice (xA bo) many many) ?_
  walk_nrm
  refine zah.re ?_
  refine zah.sq ?_
  refine zah.sq ?_
  refine zah.rg ?_
  simp only[rgs]
  refine zah.val rfl rfl qj (v:=.chan (some ch)) (fun w hp=>?_) (fun hl w hp e he=>?_) ?_
  ·have c0:=hp.cell (mcm mcs) 0 rfl
   go_simp
  ·have c0:=hp.cell (mcm mcs) 0 rfl
   simp[go_sem, *] at he
   subst he
   exact zaM hl (mcm mcs) _
  walk_nrm
  refine zah.re ?_
  refine zah.ctl rfl (fun _=>stepG_block) ?_
  refine zah.ctl rfl (fun _=>stepG_loop) ?_
  refine zah.stop fun hl9 w9 hp9 _ hlt9=>?_
  intro hsz9 hnew9 hx9 hKS9 _ hkept9 ht9 ho9 hu9
  have hbo9:w8.heap.size<=bo:=by rcases hnew9 bo (.inr rfl) with h|h;exact h.elim;exact h
  have hGB:∀ i k e,i<4->f0 i<=k->k<e0 i->GG k e->w.heap.size<=e/\e<w6.heap.size/\e≠Wg/\e≠ch/\¬ Shun e:=fun i k e h1 h2 h3 h4=>by
   obtain⟨g1,g2,g3,g4,g5,g6⟩:=hGG i k e h1 h2 h3 h4
   refine⟨Nat.le_of_not_lt fun q=>?_,g1,g2,g3,g4⟩
   exact(hB6 e (.inl (by rw[hB5];exact⟨q,g4⟩))).elim g5 g6
  have hk68:∀ e,e<w6.heap.size->e≠ch->w8.heap[e]?=w6.heap[e]?:=fun e h1 h2=>by rw[hk8 e h2,hkept7 e qg (fun h=>h)]
  have hB8:∀ e,(B5 e\/∃ i k,i<4/\f0 i<=k/\k<e0 i/\GG k e)->e<w6.heap.size/\e≠ch:=by
   rintro e (he|⟨i,k,h1,h2,h3,h4⟩)
   ·have:=hBl e he;exact⟨qg,qg⟩
   ·have:=hGB i k e h1 h2 h3 h4;exact⟨this.2.1,this.2.2.2.1⟩
  refine zlq (B:=fun e=>B5 e\/∃ i k,i<4/\f0 i<=k/\k<e0 i/\GG k e) (w0:=w8) (V:=fun k y=>∃ bs,RowP k y bs/\Hp bs w8/\∀ p∈bs,GG k p.1) hG (fun e he=>by have:=(hB8 e he).1;omega) hbo9 (fun h=>(hB8 _ h).2 rfl) (fun k y ⟨bs,h,_⟩=>hRs k y bs h) qg (hKS9 bo (.inr (.inr rfl))).2.1 (fun _ _ h=>h) (fun u xs hu hxs hbo=>?_) buf.toList _ cap6 s6 r6 tm6 _ _ _ _ _ _ _ _ _ _ _ _ _ _ _ _ _ _ _ _ _ _ _ _ _ _ _ _ _ _ _ _ _ _ _ _ _ _ _ _ w9 (fun x hx=>?_) (by simp[madeCells,zi4]) (fun k hk=>.inr ?_) (hx9.at mcs) (hp9.at mcs) ?_
  ·have hch:∀ k:Nat,∃ bs,k<many->RowP k (xs k) bs/\Hp bs w8/\∀ p∈bs,GG k p.1:=fun k=>by
    by_cases h:k<many
    ·obtain⟨bs,q⟩:=hxs k h
     exact⟨bs,fun _=>q⟩
    ·exact⟨[],fun q=>absurd q h⟩
   obtain⟨bsf,hbsf⟩:∃ bsf:Nat->List (Nat × Obj),∀ k,k<many->RowP k (xs k) (bsf k)/\Hp (bsf k) w8/\∀ p∈bsf k,GG k p.1:=⟨fun k=>(hch k).choose,fun k=>(hch k).choose_spec⟩
   obtain⟨a1,a2,a3,a4,a5⟩:=hu
   obtain⟨b1,b2,b3,b4,b5⟩:=hq6
   refine hfin u bo xs bsf ⟨fun e he=>?_,by rw[a2,hs8.2.1,ht7,b2],by rw[a3,hs8.2.2.1,ho7,b3],by rw[a4,hs8.2.2.2,hu7,b4],qg⟩ qg hbo (fun k h=>⟨(hbsf k h).1,fun p hp=>?_,fun p hp=>?_⟩) (fun k k' p p' h h' hp hp' e=>?_) (fun c=>c=Wg\/Shun c) (fun e he=>he.elim (fun h=>.inr qg) .inl) (hKS9 bo (.inr (.inr rfl))).2.1 (fun k h p hp=>?_)
   ·have he5:B5 e:=by rw[hB5];exact he
    have h1:=hB8 e (.inl he5)
    rw[a1 e (.inl he5),hk68 e h1.1 h1.2,b1 e he5]
   ·obtain⟨i,c1,c2,c3⟩:=hcover k h
    rw[a1 p.1 (.inr ⟨i,k,c1,c2,c3,(hbsf k h).2.2 p hp⟩)]
    exact(hbsf k h).2.1 p hp
   ·obtain⟨i,c1,c2,c3⟩:=hcover k h
    have:=hGB i k p.1 c1 c2 c3 ((hbsf k h).2.2 p hp)
    exact⟨this.1,qg⟩
   ·obtain⟨i,c1,c2,c3⟩:=hcover k h
    obtain⟨i',c1',c2',c3'⟩:=hcover k' h'
    exact hGGd i k i' k' p.1 c1 c2 c3 c1' c2' c3' ((hbsf k h).2.2 p hp) (e ▸ (hbsf k' h').2.2 p' hp')
   ·obtain⟨i,c1,c2,c3⟩:=hcover k h
    have:=hGB i k p.1 c1 c2 c3 ((hbsf k h).2.2 p hp)
    exact fun q=>q.elim this.2.2.1 this.2.2.2.2
  ·obtain⟨i,k,a1,a2,a3,y,bs,rfl,r1,r2,r3⟩:=hb1 x (by simpa using hx)
   refine⟨k,y,by have:=he1 i a1;omega,⟨bs,r1,fun p hp=>?_,r3⟩,rfl⟩
   have:=hGB i k p.1 a1 a2 a3 (r3 p hp)
   rw[hk68 p.1 this.2.1 this.2.2.2.1]
   exact r2 p hp
  ·obtain⟨i,a1,a2,a3⟩:=hcover k hk
   obtain⟨x,hx,y,bs,rfl,r1,r2,r3⟩:=hb2 i k a1 a2 a3
   refine⟨y,⟨bs,r1,fun p hp=>?_,r3⟩,by simpa using hx⟩
   have:=hGB i k p.1 a1 a2 a3 (r3 p hp)
   rw[hk68 p.1 this.2.1 this.2.2.2.1]
   exact r2 p hp
  ·refine⟨fun e he=>hkept9 e (by have:=(hB8 e he).1;omega) (fun h=>h),ht9,ho9,hu9,qg⟩):P:=h
abbrev zli(fR tE:Nat)(Sh:Value->Prop):Prop:=∀ [Payload] {L:Program} {Goal:Machine->Trace->Prop} {Shun:Np} {c:Frame} {cs:List Frame} (hG:zbj Tryz.prog Goal) [T:zaF L Tryz.prog] [zaF L L] (W:Whole L) {X:FuncId->Prop} (B:Bodies L Tryz.prog X)
  (hX:zmk L X)
  (hf3:L.funcs[71]?=some Tryz.f71) (hx3:¬ X 71) (hf4:L.funcs[85]?=some Tryz.f85) (hx4:¬ X 85) (hf5:L.funcs[86]?=some Tryz.f86) (hx5:¬ X 86)
  {fr:FuncId} {wd:Int} {ga:Od} {n cap:Nat} {many:Nat} {l0:List (Nat × Obj)} {Kc:Np}
  (hl0:∀ p∈l0,Kc p.1) (hcl:∀ w,Hp l0 w->Closed Kc w) (hga:zaj (zcN Kc) (.slice ga n cap) (.slice ga n cap))
  (hok:∀ w,Hp l0 w->∀ τ d,Calls L 71 #[.agg (xG wd ga n cap)] (w.frz.tp τ d) fun e _=>e=.returned (.bool true)) (hmany:∀ w,Hp l0 w->∀ τ d,Calls L 85 #[.agg (xG wd ga n cap)] (w.frz.tp τ d) fun e _=>e=.returned (J many))
  {x1 x2 x3 x4 x5 x7 x8 x9 x10 x11 x13 x14 x15 x16 x17 x19 x20 x21 x22 x23:Int} {f0 e0:Nat->Nat} (hsides:∀ w,Hp l0 w->∀ τ d,Calls L 86 #[.agg (xG wd ga n cap)] (w.frz.tp τ d) fun e _=>e=.returned (.agg #[J (f0 0:Int),J x1,J x2,J x3,J x4,J x5,J (f0 1:Int),J x7,J x8,J x9,J x10,J x11,J (f0 2:Int),J x13,J x14,J x15,J x16,J x17,J (f0 3:Int),J x19,J x20,J x21,J x22,J x23])) {fn:Func} (hf1:L.funcs[115]?=some Tryz.f115) (hx1:¬ X 115) (hf2:L.funcs[fr]?=some fn) (hm2:Tryz.prog.funcs[fr]?=some fn) (hb2:fn.body.isSome=true) (hn2:(fn.name == "runtime.NumGoroutine")=false) (hx2:¬ X fr) (hr2:zcJ fn=true)
  {Post:Nat->World->Value->Wq} {RowP:Nat->Value->List (Nat × Obj)->Prop} (hrng:Rng 4 f0 e0) (hcap:sumTo 4 (fun i=>e0 i - f0 i)<=many) (hKl:∀ c,Kc c->∃ p∈l0,p.1=c)
  (hx_0:(e0 0:Int)=f0 0+x1) (hm_0:0<=x1) (hhas_0:∀(k:Nat) (w:World),Calls L 115 #[.agg #[J (f0 0:Int),J x1,J x2,J x3,J x4,J x5],J k] w fun e _=>e=.returned (.bool (decide (((f0 0:Nat):Int)<=k/\(k:Int)<f0 0+x1)))) (hx_1:(e0 1:Int)=f0 1+x7) (hm_1:0<=x7) (hhas_1:∀(k:Nat) (w:World),Calls L 115 #[.agg #[J (f0 1:Int),J x7,J x8,J x9,J x10,J x11],J k] w fun e _=>e=.returned (.bool (decide (((f0 1:Nat):Int)<=k/\(k:Int)<f0 1+x7)))) (hx_2:(e0 2:Int)=f0 2+x13) (hm_2:0<=x13) (hhas_2:∀(k:Nat) (w:World),Calls L 115 #[.agg #[J (f0 2:Int),J x13,J x14,J x15,J x16,J x17],J k] w fun e _=>e=.returned (.bool (decide (((f0 2:Nat):Int)<=k/\(k:Int)<f0 2+x13)))) (hx_3:(e0 3:Int)=f0 3+x19) (hm_3:0<=x19) (hhas_3:∀(k:Nat) (w:World),Calls L 115 #[.agg #[J (f0 3:Int),J x19,J x20,J x21,J x22,J x23],J k] w fun e _=>e=.returned (.bool (decide (((f0 3:Nat):Int)<=k/\(k:Int)<f0 3+x19))))
  (he1:∀ j,j<4->e0 j<=many) (hrk:∀ k:Nat,k<many->∀ w,Hp l0 w->∀ τ d,Calls L fr #[.agg (xG wd ga n cap),J k] (w.frz.tp τ d) fun e w'=>∃ v,e=.returned v/\Post k w v w')
  (hPt:∀ k w0 v w τ d,Post k w0 v w->Post k w0 v (w.tp τ d)) (hPr:∀ k w0 v v' R wl w₁,Post k w0 v wl->zaj R v v'->zbh w0.heap.size R wl w₁->∃ bs,RowP k v' bs/\Hp bs w₁/\∀ p∈bs,zbI w0.heap.size R p.1) (hRs:∀ k x bs,RowP k x bs->Sh x)
  (hcover:∀ k,k<many->∃ i,i<4/\f0 i<=k/\k<e0 i) (hmn:many<=1000) (w:World) (hp0:Hp l0 w) (hKc:∀ c,Kc c->c<w.heap.size/\¬ Shun c)
  (hfin:∀(u:World) (bo:Nat) (xs:Nat->Value) (bsf:Nat->List (Nat × Obj)),zcp (fun e=>e<w.heap.size/\¬ Shun e) w u->w.heap.size<=bo->u.heap[bo]?=some (.cells (Array.ofFn fun k:Fin many=>xs k) tE) ->
   (∀ k,k<many->RowP k (xs k) (bsf k)/\Hp (bsf k) u/\∀ p∈bsf k,w.heap.size<=p.1/\p.1≠bo)->(∀ k k' p p',k<many->k'<many->p∈bsf k->p'∈bsf k'->p.1=p'.1->k=k') ->
   ∀ Shun':Np,(∀ e,Shun' e->Shun e\/w.heap.size<=e)->¬ Shun' bo->(∀ k,k<many->∀ p∈bsf k,¬ Shun' p.1)->zau Tryz.prog Goal Shun' (fun _=>False) (G (c.finish (.slice (xA bo) many many)) cs) u),
  zau Tryz.prog Goal Shun (fun _=>False) (G (Frame.enter Tryz.prog fR #[.agg (xG wd ga n cap),.func (.func fr) #[] #[]] .normal) (c::cs)) w
namespace R1
abbrev I0:=Ins.int
theorem zgc:Tryz.t159.bytes=16:=qh
theorem zeR:(Tryz.prog.info? 156).map (·.size)=some 1:=qh
noncomputable abbrev oE:=Tryz.t3
theorem zf2:Tryz.t3.zero=some (J 0):=qh
theorem zdE:Tryz.t3.bytes=8:=qh
theorem zi4:Tryz.t3.size=1:=qh
abbrev uC:=Tryz.underlying156
abbrev yW:=type159
abbrev uL:=Tryz.underlying25
abbrev yE:=type3
theorem zd0:zli fR tE (fun x=>∃ xa xn xc,x=shp xa xn xc):=by
 unfold zli
 unhygienic intros
 exact zge
end R1
abbrev I0:=Ins.ints
theorem zgc:Tryz.t142.bytes=32:=qh
theorem zeR:(Tryz.prog.info? 124).map (·.size)=some 1:=qh
noncomputable abbrev oE:=Tryz.t25
theorem zf2:Tryz.t25.zero=some (.slice none 0 0):=qh
theorem zdE:Tryz.t25.bytes=24:=qh
theorem zi4:Tryz.t25.size=1:=qh
abbrev uC:=Tryz.underlying124
abbrev yW:=type142
abbrev uL:=Tryz.underlying26
abbrev yE:=type25
theorem zd0:zli fR tE (fun x=>∃ xa xn xc,x=shp xa xn xc):=by
 unfold zli
 unhygienic intros
 exact zge
end R2
section
open Go Go.Conc
def ztL(ops:Array Oper):Nat->Array Bool->List (List Nat)
 | 0,_=>[[]]
 | fuel+1,listed=>match Region.ready .any ops listed with
  | []=>[[]]
  | r::rs=>(r::rs).flatMap fun i=>(ztL ops fuel (listed.setIfInBounds i true)).map (i::·)
theorem zsW{ops:Array Oper}:∀(fuel t:Nat) (listed:Array Bool),Region.linearise.go .any ops fuel t listed []∈ztL ops fuel listed:=by
 intro fuel
 induction fuel with
 | zero=>intro t listed;simp[Region.linearise.go,ztL]
 | succ fuel ih =>
  intro t listed
  simp only[Region.linearise.go,ztL]
  change (match (Region.ready .any ops listed)[t % (Region.ready .any ops listed).length]? with
   | some i=>Region.linearise.go .any ops fuel (t / (Region.ready .any ops listed).length) (listed.setIfInBounds i true) [i]
   | none=>[].reverse)∈_
  cases hr:Region.ready .any ops listed with
  | nil=>simp
  | cons x xs =>
   have h0:t % (x::xs).length<(x::xs).length:=Nat.mod_lt _ qm
   rw[List.getElem?_eq_getElem h0]
   refine List.mem_flatMap.2 ⟨_,List.getElem_mem h0,List.mem_map.2 ⟨_,ih (t / (x::xs).length) _,?_⟩⟩
   simp only[]
   rw[linearise_go_acc (acc:=[_]),List.reverse_singleton,List.singleton_append]
section
variable{M:Program}{main:Bool}{Live:Wq}{Ex:Event->Prop}{Stop:Nat->Np->Goroutine->Wq}{Snd:Nat->Np->Value->Wq}{ch:Nat}{K:Np}{l:List (Nat × Obj)}{σ:Nat}{S:Np}{b:Frame}{a:Act}{k:List Item}{cs:List Frame}{ops:Array Oper}{id:Nat}
theorem zah.draw(hm:M.follows .mixedOrders=true)(h0:∀ w:World,Live w->Live { w with drawn:=w.drawn+1 })(hr:ztL ops ops.size (Array.replicate ops.size false)=rs)(hn:∀ r∈rs,zah M main Live Ex Stop Snd ch K l σ S (G (b.at a (.inRegion ops r::k)) cs)):zah M main Live Ex Stop Snd ch K l σ S (G (b.at a (.code (.region id ops true)::k)) cs) :=
 fun hl w hp hL h2=>za5.go rfl fun w₁ hs=>by
  have h1:=hn _ (hr ▸ zsW ops.size (w₁.tape w₁.drawn (.order b.fn id)) _)
  have e:Region.schedule (M.follows .mixedOrders) ops (w₁.tape w₁.drawn (.order b.fn id))=Region.linearise.go .any ops ops.size (w₁.tape w₁.drawn (.order b.fn id)) (Array.replicate ops.size false) []:=by
   simp only[Region.schedule,hm,Bool.true_or,if_true]
   rfl
  refine⟨_,{ w₁ with drawn:=w₁.drawn+1 },_,S,stepG_region_draw,⟨Nat.le_refl _,fun _ h=>h,fun _ h=>Or.inl h,fun _ _ _=>rfl,rfl,rfl,rfl,qm⟩,?_⟩
  rw[e]
  exact(h1 hl w hp hL h2).rely ⟨hs.size,hs.same,hs.tape,hs.os,hs.out,fun h=>h0 _ (hs.live h)⟩
end
section
variable{M:Program}{main:Bool}{Live:Wq}{Ex:Event->Prop}{Stop:Nat->Np->Goroutine->Wq}{Snd:Nat->Np->Value->Wq}{ch:Nat}{K:Np}{l:List (Nat × Obj)}{σ:Nat}{S:Np}{b c:Frame}{a:Act}{todo:List Item}{cs:List Frame}{fn:Func}{v:Value}
theorem zjO{w:World}(hn:b.kind=.normal)(hd:a.defers=[])(hf:M.funcs[b.fn]?=some fn)(hr:(results fn a.tmps).run M w=.ok v w) :
  ∃ es,stepG M main (G { b.at a todo with mode:=.returning } (c::cs)) w=.go (G (c.finish v) cs) w es/\∀ e∈es,e∈(results fn a.tmps).events M w #[]:=by
 refine⟨seen M b.fn ((results fn a.tmps).events M w #[]),?_,fun e he=>mem_seen he⟩
 simp[G,stepG,unwind,doReturn,Frame.at,hn,hd,hf,hr,GStep.after]
theorem zah.leave(hn:b.kind=.normal)(hd:a.defers=[])(hf:M.funcs[b.fn]?=some fn)(hr:∀ w,Hp l w->(results fn a.tmps).run M w=.ok v w)(he:(∀ p∈l,K p.1\/S p.1)->∀ w,Hp l w->∀ e∈(results fn a.tmps).events M w #[],EvS K S e)(hN:zah M main Live Ex Stop Snd ch K l σ S (G (c.finish v) cs)):zah M main Live Ex Stop Snd ch K l σ S (G { b.at a todo with mode:=.returning } (c::cs)) :=
 fun hl w hp hL h0=>za5.go rfl fun w₁ hs=>by
  obtain⟨es,h1,h2⟩:=zjO (main:=main) (todo:=todo) (c:=c) (cs:=cs) hn hd hf (hr w₁ (hp.sees hl hs))
  exact⟨_,w₁,es,S,h1,⟨Nat.le_refl _,fun _ h=>h,fun _ h=>Or.inl h,fun _ _ _=>rfl,rfl,rfl,rfl,fun e hx=>Or.inl (he hl w₁ (hp.sees hl hs) e (h2 e hx))⟩,(hN hl w hp hL h0).rely hs⟩
end
end
section
open Go Go.Conc Go.ConcN Go.RowKit Go.Conc.Lib Go.ConcR.Gen Go.ConcN.Gen
open Go.ConcR (KK wgBlock WgAt stA smA rd wr mk Payload Aside2 DC0)
noncomputable abbrev zgi:Array Oper:=match Tryz.f54.body with|some (.seq _ (.seq _ (.seq (.region _ o _) _)))=>o|_=>#[]
theorem zdD:(Tryz.prog.info? 35).map (·.size)=some 4:=qh
section
variable{Goal:Machine->Trace->Prop}{c:Frame}{cs:List Frame}
theorem scD(hG:zbj Tryz.prog Goal){M bf:Nat}(hs:u.heap[bs]?=some (.cells xF 35))(h3:¬ Sh bs)(h1:∀ u2:World,zcp (fun e=>e<u.heap.size/\e≠bs) u u2->zau Tryz.prog Goal Sh (fun _=>False) (G (c.finish (.tuple #[.agg (xH wd (xA bc) n n (xA bl) M M (xA bf) M M),.bool true])) cs) u2)(y0 y1 y3 y4 y5 y6 y7 y8 y10 y12 y14:Value) :
  zau Tryz.prog Goal Sh (fun _=>False) (G ((base 54).at ⟨#[y0,y1,.pointer (xA bs),y3,y4,y5,y6,y7,y8,.agg (xG wd (xA bc) n n),y10,.slice (xA bl) M M,y12,.slice (xA bf) M M,y14],[]⟩ [.inRegion zgi [6,7,8],.code .ret]) (c::cs)) u:=by
 have h4:=(gei hs).1
 refine zau.way hG (ch:=0) (K:=fun _=>False) (S:=fun e=>e=bs) (l:=[(bs,.cells xF 35)]) (lx:=[]) (fun p h=>by simp at h;subst h;exact hs) (fun p h=>by simp at h;subst h;exact .inr rfl) (fun _ h=>by cases h) (fun _ h=>by cases h) (fun _ h=>h.elim) (fun e he=>by rcases he with he|rfl;exact he.elim;exact⟨h4,h3,fun h=>h⟩) ?_
 simp only[zgi,Tryz.f54]
 refine zah.va (v:=.agg (xH wd (xA bc) n n (xA bl) M M (xA bf) M M)) ?_
 walk_nrm
 refine zah.put (l':=[(bs,.cells (xH wd (xA bc) n n (xA bl) M M (xA bf) M M) 35)]) (c:=bs) (obj:=.cells (xH wd (xA bc) n n (xA bl) M M (xA bf) M M) 35) rfl rfl qj rfl (fun _ _ _ h=>h) (fun w hp=>⟨_,zif (ty:=35) (cells:=(xH wd (xA bc) n n (xA bl) M M (xA bf) M M)) rfl rfl rfl (hp.at mcs) zdD rfl qo,(zaH (hp.at mcs)).1,(zaH (hp.at mcs)).2⟩) (fun _ w hp e he=>?_) (fun p hp=>?_) ?_
 ·obtain⟨q,rfl⟩:=zlB (ty:=35) (cells:=(xH wd (xA bc) n n (xA bl) M M (xA bf) M M)) rfl rfl rfl (hp.at mcs) zdD rfl qo e he
  exact Or.inl ⟨_,_,rfl,Or.inl rfl⟩
 ·rcases List.mem_cons.1 hp with rfl|hp
  ·exact .inl rfl
  ·cases hp
 walk_nrm
 refine zah.va (v:=.bool true) ?_
 walk_nrm
 refine zah.re ?_
 refine zah.ctl rfl (fun _=>stepG_ret') ?_
 refine zah.leave (v:=.tuple #[.agg (xH wd (xA bc) n n (xA bl) M M (xA bf) M M),.bool true]) rfl rfl func54 (fun w hp=>?_) (fun hl w hp e he=>?_) ?_
 ·have c0:=hp.cell mcs 0 rfl
  have c1:=hp.cell mcs 1 rfl
  have c2:=hp.cell mcs 2 rfl
  have c3:=hp.cell mcs 3 rfl
  simp[results,results54,go_sem,c0,c1,c2,c3]
 ·have c0:=hp.cell mcs 0 rfl
  have c1:=hp.cell mcs 1 rfl
  have c2:=hp.cell mcs 2 rfl
  have c3:=hp.cell mcs 3 rfl
  simp[results,results54,go_sem,c0,c1,c2,c3] at he
  rcases he with rfl|rfl|rfl|rfl
  all_goals exact zaM hl mcs _
 refine zah.stop fun hg w3 hj _ h9=>?_
 intro h2 h8 hk hf _ h0 h5 h6 h7
 exact h1 w3 ⟨fun e he=>h0 e he.1 he.2,h5,h6,h7,h2⟩
end
structure zd7(RowP:Nat->Value->List (Nat × Obj)->Prop)(M B:Nat)(u:World)(bo:Nat)(xs:Nat->Value)(bsf:Nat->List (Nat × Obj))(Sh:Np):Prop where
 new:B<=bo
 all:u.heap[bo]?=some (.cells (Array.ofFn fun k:Fin M=>xs k) 25)
 row:∀ k,k<M->RowP k (xs k) (bsf k)/\Hp (bsf k) u/\∀ p∈bsf k,B<=p.1/\p.1≠bo
 once:∀ k k' p p',k<M->k'<M->p∈bsf k->p'∈bsf k'->p.1=p'.1->k=k'
 seen:¬ Sh bo
 rows:∀ k,k<M->∀ p∈bsf k,¬ Sh p.1
def zjY(Goal:Machine->Trace->Prop)(wd:Int)(ga:Od)(n cap M:Nat)(l0:List (Nat × Obj))(Kc:Np)(RowP:Nat->Value->List (Nat × Obj)->Prop):Prop :=
 ∀(Sh0:Np) (c0:Frame) (cs0:List Frame) (w0:World),Hp l0 w0->(∀ e,Kc e->e<w0.heap.size/\¬ Sh0 e)->(∀(u:World) (bo:Nat) (xs:Nat->Value) (bsf:Nat->List (Nat × Obj)) (Sh:Np),zcp (fun e=>e<w0.heap.size/\¬ Sh0 e) w0 u->zd7 RowP M w0.heap.size u bo xs bsf Sh->(∀ e,Sh e->Sh0 e\/w0.heap.size<=e)->zau Tryz.prog Goal Sh (fun _=>False) (G (c0.finish (.slice (xA bo) M M)) cs0) u) ->
  zau Tryz.prog Goal Sh0 (fun _=>False) (G (Frame.enter Tryz.prog 74 #[.agg (xG wd ga n cap),.func (.func 67) #[] #[]] .normal) (c0::cs0)) w0
def ztu(Goal:Machine->Trace->Prop)(wd:Int)(ga:Od)(n cap M:Nat)(l0:List (Nat × Obj))(Kc:Np)(objL:Obj):Prop :=
 ∀(Sh0:Np) (c0:Frame) (cs0:List Frame) (w0:World),Hp l0 w0->(∀ e,Kc e->e<w0.heap.size/\¬ Sh0 e)->(∀(u:World) (bo:Nat) (Sh:Np),zcp (fun e=>e<w0.heap.size/\¬ Sh0 e) w0 u->w0.heap.size<=bo->u.heap[bo]?=some objL->¬ Sh bo->(∀ e,Sh e->Sh0 e\/w0.heap.size<=e)->zau Tryz.prog Goal Sh (fun _=>False) (G (c0.finish (.slice (xA bo) M M)) cs0) u) ->
  zau Tryz.prog Goal Sh0 (fun _=>False) (G (Frame.enter Tryz.prog 73 #[.agg (xG wd ga n cap)] .normal) (c0::cs0)) w0
theorem zd7.mono{M B B':Nat}{u2:World}{bo:Nat}(h:zd7 RowP M B u bo xs bsf Sh)(hB:B'<=B)(hk:∀ e o,B<=e->u.heap[e]?=some o->u2.heap[e]?=some o):zd7 RowP M B' u2 bo xs bsf Sh :=
 ⟨by have:=h.new;omega,hk _ _ h.new h.all,fun k q=>⟨(h.row k q).1,fun p hp=>hk _ _ ((h.row k q).2.2 p hp).1 ((h.row k q).2.1 p hp),fun p hp=>⟨by have:=((h.row k q).2.2 p hp).1;omega,((h.row k q).2.2 p hp).2⟩⟩,h.once,h.seen,h.rows⟩
section
variable{Goal:Machine->Trace->Prop}{c:Frame}{cs:List Frame}
theorem zps(h:P:=by
  have hlt:=(gei hs).1
  refine hfeet Sh0 _ _ w1 hq (fun e he=>⟨by have:=(hK0 e he).1;omega,(hK0 e he).2⟩) fun u bf xs bsf Sh hk hF hSh=>?_
  simp only[Frame.finish_at]
  walk_nrm
  obtain⟨a1,a2,a3,a4,a5⟩:=hk
  have hsu:u.heap[bs]?=some (.cells xF 35):=(a1 bs ⟨qg,hsn⟩).trans ((hkept1 bs hlt (fun h=>h)).trans hs)
  refine scD hG (wd:=wd) (n:=n) (M:=M) (bs:=bs) (bc:=bc) (bl:=bl) (bf:=bf) hsu (fun h=>by rcases hSh bs h with h|h;exact hsn h;omega) (fun u2 hk2=>?_) _ _ _ _ _ _ _ _ _ _ _
  obtain⟨b1,b2,b3,b4,b5⟩:=hk2
  have hfm:∀ e o,w1.heap.size<=e->u.heap[e]?=some o->u2.heap[e]?=some o:=fun e o q1 q2=>(b1 e ⟨(gei q2).1,qg⟩).trans q2
  exact hfin u2 bf xs bsf Sh ⟨fun e he=>((b1 e ⟨qg,he.2.2⟩).trans (a1 e ⟨qg,he.2.1⟩)).trans (hkept1 e he.1 (fun h=>h)),b2.trans (a2.trans ht1),b3.trans (a3.trans ho1),b4.trans (a4.trans hu1),qg⟩ (hF.mono hsz1 hfm) (fun e he=>(hSh e he).imp id fun h=>qg)):P:=h
theorem zuG(hG:zbj Tryz.prog Goal){M:Nat}(hl0:∀ p∈l0,Kc p.1)(hfeet:zjY Goal wd ga n cap M l0 Kc RowP)(hp0:Hp l0 u0)(hK0:∀ e,Kc e->e<u0.heap.size/\¬ Sh0 e)(hs:u0.heap[bs]?=some (.cells xF 35))(hsn:¬ Sh0 bs)(hfin:∀(u2:World) (bf:Nat) (xs:Nat->Value) (bsf:Nat->List (Nat × Obj)) (Sh:Np),zcp (fun e=>e<u0.heap.size/\¬ Sh0 e/\e≠bs) u0 u2->zd7 RowP M u0.heap.size u2 bf xs bsf Sh->(∀ e,Sh e->Sh0 e\/u0.heap.size<=e)->zau Tryz.prog Goal Sh (fun _=>False) (G (c.finish (.tuple #[.agg (xH wd (xA bc) n n (xA bl) M M (xA bf) M M),.bool true])) cs) u2)(y0 y1 y3 y4 y5 y6 y7 y8 y10 y13 y14:Value) :
  zau Tryz.prog Goal Sh0 (fun _=>False) (G ((base 54).at ⟨#[y0,y1,.pointer (xA bs),y3,y4,y5,y6,y7,y8,.agg (xG wd (xA bc) n n),y10,.slice (xA bl) M M,.agg (xG wd ga n cap),y13,y14],[]⟩ [.inRegion zgi [5,6,7,8],.code .ret]) (c::cs)) u0:=by
 refine zau.way hG (ch:=0) (K:=Kc) (S:=fun _=>False) (l:=l0) (lx:=[]) hp0 (fun p h=>.inl (hl0 p h)) (fun _ h=>by cases h) (fun _ h=>by cases h) (fun _ h=>h.elim) (fun e he=>⟨(hK0 e (he.elim id fun x=>x.elim)).1,(hK0 e (he.elim id fun x=>x.elim)).2,fun h=>h⟩) ?_
 simp only[zgi,Tryz.f54]
 skip
 refine zah.enter rfl rfl qj (fun w=>run_call_body rfl func74 rfl rfl) (fun w=>events_call_body rfl func74 rfl rfl _) ?_
 walk_nrm
 refine zah.stop fun hl1 w1 hp1 _ hlt1=>?_
 intro hsz1 hnew1 hx1 hKS1 _ hkept1 ht1 ho1 hu1
 have hq:Hp l0 w1:=fun p h=>hp1 p h
 exact zps
theorem zuH(hG:zbj Tryz.prog Goal){M:Nat}(hl0:∀ p∈l0,Kc p.1)(hfeet:zjY Goal wd ga n cap M l0 Kc RowP)(hp0:Hp l0 u0)(hK0:∀ e,Kc e->e<u0.heap.size/\¬ Sh0 e)(hs:u0.heap[bs]?=some (.cells xF 35))(hsn:¬ Sh0 bs)(hb:u0.heap[bg]?=some (.cells (xG wd ga n cap) 33))(hbn:¬ Sh0 bg)(hfin:∀(u2:World) (bf:Nat) (xs:Nat->Value) (bsf:Nat->List (Nat × Obj)) (Sh:Np),zcp (fun e=>e<u0.heap.size/\¬ Sh0 e/\e≠bs) u0 u2->zd7 RowP M u0.heap.size u2 bf xs bsf Sh->(∀ e,Sh e->Sh0 e\/u0.heap.size<=e)->zau Tryz.prog Goal Sh (fun _=>False) (G (c.finish (.tuple #[.agg (xH wd (xA bc) n n (xA bl) M M (xA bf) M M),.bool true])) cs) u2)(y0 y3 y4 y5 y6 y7 y8 y10 y12 y13 y14:Value) :
  zau Tryz.prog Goal Sh0 (fun _=>False) (G ((base 54).at ⟨#[y0,.pointer (xA bg),.pointer (xA bs),y3,y4,y5,y6,y7,y8,.agg (xG wd (xA bc) n n),y10,.slice (xA bl) M M,y12,y13,y14],[]⟩ [.inRegion zgi [4,5,6,7,8],.code .ret]) (c::cs)) u0:=by
 refine zau.way hG (ch:=0) (K:=fun e=>Kc e\/e=bg) (S:=fun _=>False) (l:=(bg,.cells (xG wd ga n cap) 33)::l0) (lx:=[]) (fun p h=>by rcases List.mem_cons.1 h with rfl|h;exact hb;exact hp0 p h) (fun p h=>by rcases List.mem_cons.1 h with rfl|h;exact .inl (.inr rfl);exact .inl (.inl (hl0 p h))) (fun _ h=>by cases h) (fun _ h=>by cases h) (fun _ h=>h.elim) (fun e he=>by rcases he with (he|rfl)|he;exact⟨(hK0 e he).1,(hK0 e he).2,fun h=>h⟩;exact⟨(gei hb).1,hbn,fun h=>h⟩;exact he.elim) ?_
 simp only[zgi,Tryz.f54]
 refine zah.val rfl rfl qj (v:=.agg (xG wd ga n cap)) (fun w hp=>?_) (fun hl w hp e he=>?_) ?_
 ·have c0:=hp.cell mcs 0 rfl
  have c1:=hp.cell mcs 1 rfl
  go_simp
 ·have c0:=hp.cell mcs 0 rfl
  have c1:=hp.cell mcs 1 rfl
  simp[go_sem, *] at he
  rcases he with rfl|rfl
  all_goals exact zaM hl mcs _
 walk_nrm
 refine zah.enter rfl rfl qj (fun w=>run_call_body rfl func74 rfl rfl) (fun w=>events_call_body rfl func74 rfl rfl _) ?_
 walk_nrm
 refine zah.stop fun hl1 w1 hp1 _ hlt1=>?_
 intro hsz1 hnew1 hx1 hKS1 _ hkept1 ht1 ho1 hu1
 have hq:Hp l0 w1:=fun p h=>hp1 p (mcm h)
 exact zps
theorem zpr(h:P:=by
  refine zau.way hG (ch:=0) (K:=Kc) (S:=fun _=>False) (l:=l0) (lx:=[]) hp0 (fun p h=>.inl (hl0 p h)) (fun _ h=>by cases h) (fun _ h=>by cases h) (fun _ h=>h.elim) (fun e he=>⟨(hK0 e (he.elim id fun x=>x.elim)).1,(hK0 e (he.elim id fun x=>x.elim)).2,fun h=>h⟩) ?_
  simp only[zgi,Tryz.f54]
  refine zah.enter rfl rfl qj (fun w=>run_call_body rfl func73 rfl rfl) (fun w=>events_call_body rfl func73 rfl rfl _) ?_
  walk_nrm
  refine zah.stop fun hl1 w1 hp1 _ hlt1=>?_
  intro hsz1 hnew1 hx1 hKS1 _ hkept1 ht1 ho1 hu1
  have hlt:=(gei hs).1
  have hbt:=(gei hb).1
  refine hpic Sh0 _ _ w1 hp1 (fun e he=>⟨by have:=(hK0 e he).1;omega,(hK0 e he).2⟩) fun u bl Sh hk hbl hLo hnl hSh=>?_
  simp only[Frame.finish_at]
  walk_nrm
  obtain⟨a1,a2,a3,a4,a5⟩:=hk
  have hkeep:∀ e o,u0.heap[e]?=some o->¬ Sh0 e->u.heap[e]?=some o/\¬ Sh e:=fun e o q1 q2=>by
   have q3:=(gei q1).1
   exact⟨(a1 e ⟨qg,q2⟩).trans ((hkept1 e q3 (fun h=>h)).trans q1),fun h=>by rcases hSh e h with h|h;exact q2 h;omega⟩
  have hblu:=(gei hLo).1
  first
   | refine zuG hG hl0 hfeet (bl:=bl) (bc:=bc) (n:=n) (fun p h=>(hkeep p.1 p.2 (hp0 p h) (hK0 _ (hl0 p h)).2).1) (fun e he=>⟨by have:=(hK0 e he).1;omega,fun h=>by rcases hSh e h with h|h;exact(hK0 e he).2 h;have:=(hK0 e he).1;omega⟩) (hkeep bs _ hs hsn).1 (hkeep bs _ hs hsn).2 (fun u2 bf xs bsf Sh2 hk2 hF hSh2=>?_) _ _ _ _ _ _ _ _ _ _ _
   | refine zuH hG hl0 hfeet (bl:=bl) (bc:=bc) (n:=n) (fun p h=>(hkeep p.1 p.2 (hp0 p h) (hK0 _ (hl0 p h)).2).1) (fun e he=>⟨by have:=(hK0 e he).1;omega,fun h=>by rcases hSh e h with h|h;exact(hK0 e he).2 h;have:=(hK0 e he).1;omega⟩) (hkeep bs _ hs hsn).1 (hkeep bs _ hs hsn).2 (hkeep bg _ hb hbn).1 (hkeep bg _ hb hbn).2 (fun u2 bf xs bsf Sh2 hk2 hF hSh2=>?_) _ _ _ _ _ _ _ _ _ _ _
  obtain⟨b1,b2,b3,b4,b5⟩:=hk2
  refine hfin u2 bl bf xs bsf Sh2 ⟨fun e he=>?_,b2.trans (a2.trans ht1),b3.trans (a3.trans ho1),b4.trans (a4.trans hu1),qg⟩ qg ((b1 bl ⟨hblu,hnl,qg⟩).trans hLo) (fun h=>by rcases hSh2 bl h with h|h;exact hnl h;omega) (fun k hk3 p hp3 e=>by have:=((hF.row k hk3).2.2 p hp3).1;omega) (by have:=hF.new;omega) (hF.mono qg (fun e o _ q=>q)) (fun e he=>by rcases hSh2 e he with h|h;(rcases hSh e h with h|h;exact .inl h;exact .inr qg);exact .inr qg)
  have h1:¬ Sh e:=fun h=>by rcases hSh e h with h|h;exact he.2.1 h;have:=he.1;omega
  exact((b1 e ⟨by have:=he.1;omega,h1,he.2.2⟩).trans (a1 e ⟨by have:=he.1;omega,he.2.1⟩)).trans (hkept1 e he.1 (fun h=>h))):P:=h
theorem zuE(hG:zbj Tryz.prog Goal){M:Nat}(hl0:∀ p∈l0,Kc p.1)(hfeet:zjY Goal wd ga n cap M l0 Kc RowP)(hpic:ztu Goal wd ga n cap M l0 Kc objL)(hp0:Hp l0 u0)(hK0:∀ e,Kc e->e<u0.heap.size/\¬ Sh0 e)(hs:u0.heap[bs]?=some (.cells xF 35))(hsn:¬ Sh0 bs)(hb:u0.heap[bg]?=some (.cells (xG wd ga n cap) 33))(hbn:¬ Sh0 bg)(hfin:∀(u2:World) (bl bf:Nat) (xs:Nat->Value) (bsf:Nat->List (Nat × Obj)) (Sh:Np),zcp (fun e=>e<u0.heap.size/\¬ Sh0 e/\e≠bs) u0 u2->u0.heap.size<=bl->u2.heap[bl]?=some objL->¬ Sh bl->(∀ k,k<M->∀ p∈bsf k,p.1≠bl)->bl≠bf->zd7 RowP M u0.heap.size u2 bf xs bsf Sh->(∀ e,Sh e->Sh0 e\/u0.heap.size<=e)->zau Tryz.prog Goal Sh (fun _=>False) (G (c.finish (.tuple #[.agg (xH wd (xA bc) n n (xA bl) M M (xA bf) M M),.bool true])) cs) u2)(y0 y3 y4 y5 y6 y7 y8 y11 y13 y14:Value) :
  zau Tryz.prog Goal Sh0 (fun _=>False) (G ((base 54).at ⟨#[y0,.pointer (xA bg),.pointer (xA bs),y3,y4,y5,y6,y7,y8,.agg (xG wd (xA bc) n n),.agg (xG wd ga n cap),y11,.agg (xG wd ga n cap),y13,y14],[]⟩ [.inRegion zgi [3,5,6,7,8],.code .ret]) (c::cs)) u0:=zpr
theorem zuF(hG:zbj Tryz.prog Goal){M:Nat}(hl0:∀ p∈l0,Kc p.1)(hfeet:zjY Goal wd ga n cap M l0 Kc RowP)(hpic:ztu Goal wd ga n cap M l0 Kc objL)(hp0:Hp l0 u0)(hK0:∀ e,Kc e->e<u0.heap.size/\¬ Sh0 e)(hs:u0.heap[bs]?=some (.cells xF 35))(hsn:¬ Sh0 bs)(hb:u0.heap[bg]?=some (.cells (xG wd ga n cap) 33))(hbn:¬ Sh0 bg)(hfin:∀(u2:World) (bl bf:Nat) (xs:Nat->Value) (bsf:Nat->List (Nat × Obj)) (Sh:Np),zcp (fun e=>e<u0.heap.size/\¬ Sh0 e/\e≠bs) u0 u2->u0.heap.size<=bl->u2.heap[bl]?=some objL->¬ Sh bl->(∀ k,k<M->∀ p∈bsf k,p.1≠bl)->bl≠bf->zd7 RowP M u0.heap.size u2 bf xs bsf Sh->(∀ e,Sh e->Sh0 e\/u0.heap.size<=e)->zau Tryz.prog Goal Sh (fun _=>False) (G (c.finish (.tuple #[.agg (xH wd (xA bc) n n (xA bl) M M (xA bf) M M),.bool true])) cs) u2)(y0 y3 y4 y5 y6 y7 y8 y11 y12 y13 y14:Value) :
  zau Tryz.prog Goal Sh0 (fun _=>False) (G ((base 54).at ⟨#[y0,.pointer (xA bg),.pointer (xA bs),y3,y4,y5,y6,y7,y8,.agg (xG wd (xA bc) n n),.agg (xG wd ga n cap),y11,y12,y13,y14],[]⟩ [.inRegion zgi [3,4,5,6,7,8],.code .ret]) (c::cs)) u0:=zpr
end
end
section
open Go Go.Conc
section
variable{M:Program}{main:Bool}{Live:Wq}{Ex:Event->Prop}{Stop:Nat->Np->Goroutine->Wq}{Snd:Nat->Np->Value->Wq}{ch:Nat}{K:Np}{l:List (Nat × Obj)}{σ:Nat}{S:Np}
theorem zah.callM{L:Program}[T:zaF L M][zaF L L](W:Whole L)(B:Bodies L M X){Lv:Np}(h3:∀ w w':World,(∀ c,Lv c->w'.heap[c]?=w.heap[c]?)->Live w->Live w')(h4:∀ w c,Live w->Lv c->c<w.heap.size)(hX:zmk L X){fn:Func}(hf:L.funcs[f]?=some fn)(hb:fn.body.isSome=true)(h5:¬ X f){a:Array Value}(hP:∀ w0 v w τ d,Post w0 v w->Post w0 v (w.tp τ d))(h6:∀ c,Kc c->K c)(h7:∀ w,Hp l w->Closed Kc w)(ha:zay (zcN Kc) a a)(hC:∀ w,Hp l w->∀ τ d,Calls L f a (w.frz.tp τ d) fun e w'=>∃ v,e=.returned v/\Post w v w'){c:Frame}{cs:List Frame}(h8:∀ w0 v v' S' R wl w₁,Hp l w0->Hp l w₁->Post w0 v wl->zaj R v v'->zbh w0.heap.size R wl w₁->S'=zbI w0.heap.size R->(∀ c,S' c->w0.heap.size<=c)->(∀ c,K c\/S c->c<w0.heap.size)->Live w₁->(∀ c,K c\/S c\/S' c->c<w₁.heap.size) ->
   za5 M main Live Ex Stop Snd ch K σ (fun c=>S c\/S' c) (G (c.finish v') cs) w₁) :
  zah M main Live Ex Stop Snd ch K l σ S (G (Frame.enter M f a .normal) (c::cs)):=by
 intro hl w hp hL h0
 refine ziH (Post:=Post w) (Lv:=Lv) W B h3 hX hf hb h5 (hP w) h6 (h7 w hp) ha h0 (fun c hc=>h4 w c hL hc) (hC w hp) ?_
 rintro v' w₁ S' hs h2 ⟨R,wl,v,hv,hw,h1,hS'⟩
 refine h8 w v v' S' R wl w₁ hp (hp.sees hl hs) h1 hv hw hS' h2 h0 (hs.live hL) fun c hc=>?_
 rcases hc with hc|hc|hc
 ·exact nll (h0 c (Or.inl hc)) hs.size
 ·exact nll (h0 c (Or.inr hc)) hs.size
 ·rw[hS'] at hc
  obtain⟨x,hx,_⟩:=hc
  exact(hw.lt hx).2
end
theorem zah.callMb{L M:Program}{main:Bool}{Live:Wq}{Ex:Event->Prop}{Stop:Nat->Np->Goroutine->Wq}{Snd:Nat->Np->Value->Wq}{ch:Nat}{K:Np}{l:List (Nat × Obj)}{σ:Nat}{S:Np}[T:zaF L M][zaF L L](W:Whole L)(B:Bodies L M X){Lv:Np}(h8:∀ w w':World,(∀ c,Lv c->w'.heap[c]?=w.heap[c]?)->Live w->Live w')(h9:∀ w c,Live w->Lv c->c<w.heap.size)(hX:zmk L X){fn:Func}(hf:L.funcs[f]?=some fn)(hb:fn.body.isSome=true)(he:¬ X f){a:Array Value}(hP:∀ w0 v w τ d,Post w0 v w->Post w0 v (w.tp τ d))(hg:∀ c,Kc c->K c)(hj:∀ w,Hp l w->Closed Kc w)(ha:zay (zcN Kc) a a)(hC:∀ w,Hp l w->∀ τ d,Calls L f a (w.frz.tp τ d) fun e w'=>∃ v,e=.returned v/\Post w v w')(hQ:∀ w0 v v' R wl w₁,Post w0 v wl->zaj R v v'->zbh w0.heap.size R wl w₁->∃ bs,Q v' bs/\Hp bs w₁/\∀ p∈bs,zbI w0.heap.size R p.1){c:Frame}{cs:List Frame}(hn:∀(S':Np) (v':Value) (bs:List (Nat × Obj)),Q v' bs->(∀ p∈bs,S' p.1/\¬ K p.1/\¬ S p.1)->(∀ p∈l,K p.1\/S p.1)->zah M main Live Ex Stop Snd ch K (bs++l) σ (fun c=>S c\/S' c) (G (c.finish v') cs)) :
  zah M main Live Ex Stop Snd ch K l σ S (G (Frame.enter M f a .normal) (c::cs)):=by
 intro hl
 refine zah.callM (Lv:=Lv) (Kc:=Kc) W B h8 h9 hX hf hb he hP hg hj ha hC ?_ hl
 intro w0 v v' S' R wl w₁ _ hk h4 hv hw hS' h3 h5 hL h6
 obtain⟨bs,hq,hbs,h7⟩:=hQ w0 v v' R wl w₁ h4 hv hw
 have h0:∀ p∈bs,S' p.1:=fun p h=>by rw[hS'];exact h7 p h
 refine hn S' v' bs hq (fun p h=>⟨h0 p h,fun q=>?_,fun q=>?_⟩) hl (fun p h=>?_) w₁ (fun p h=>?_) hL (fun c hc=>h6 c (hc.imp id fun x=>x))
 ·have h1:=h5 p.1 (.inl q);have h2:=h3 p.1 (h0 p h);omega
 ·have h1:=h5 p.1 (.inr q);have h2:=h3 p.1 (h0 p h);omega
 ·rcases List.mem_append.1 h with h|h
  ·exact .inr (.inr (h0 p h))
  ·exact(hl p h).imp id .inl
 ·rcases List.mem_append.1 h with h|h
  ·exact hbs p h
  ·exact hk p h
