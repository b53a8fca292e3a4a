/- Part. -/
import Derived.Test.YtidbgfnkjgaliaaGreatLAj
set_option maxHeartbeats 4000000
set_option linter.unusedVariables false
namespace Go.Proofs.YtidbgfnkjgaliaaGreat
variable{wd:Int}{l0:List (Nat × Obj)}{M bc bg bs cap n:Nat}{bsf:Nat->List (Nat × Obj)}{Kc Sh Sh0:Nat->Prop}{xs:Nat->Value}{RowP:Nat->Value->List (Nat × Obj)->Prop}{objL:Obj}{ga:Option Addr}{u0:World}
section
open Go Go.Conc Go.ConcN Go.RowKit Go.Conc.Lib Go.ConcR.Gen Go.ConcN.Gen
open Go.ConcR (KK wgBlock WgAt stA smA rd wr mk Payload Aside2 DC0)
structure zdI(RowP:Nat->Value->List (Nat × Obj)->Prop)(M B:Nat)(u:World)(bo:Nat)(xs:Nat->Value)(bsf:Nat->List (Nat × Obj))(Sh:Nat->Prop):Prop where
 new:B<=bo
 all:u.heap[bo]?=some (.cells (Array.ofFn fun k:Fin M=>xs k) 27)
 row:∀ k,k<M->RowP k (xs k) (bsf k)/\Hp (bsf k) u/\∀ p∈bsf k,B<=p.1/\p.1≠bo
 once:∀ k k' p p',k<M->k'<M->p∈bsf k->p'∈bsf k'->p.1=p'.1->k=k'
 seen:¬ Sh bo
 rows:∀ k,k<M->∀ p∈bsf k,¬ Sh p.1
def zi7(Goal:Machine->Trace->Prop)(wd:Int)(ga:Option Addr)(n cap M:Nat)(l0:List (Nat × Obj))(Kc:Nat->Prop)(RowP:Nat->Value->List (Nat × Obj)->Prop):Prop :=
 ∀(Sh0:Nat->Prop) (c0:Frame) (cs0:List Frame) (w0:World),Hp l0 w0->(∀ e,Kc e->e<w0.heap.size/\¬ Sh0 e)->(∀(u:World) (bo:Nat) (xs:Nat->Value) (bsf:Nat->List (Nat × Obj)) (Sh:Nat->Prop),zbK (fun e=>e<w0.heap.size/\¬ Sh0 e) w0 u->zdI RowP M w0.heap.size u bo xs bsf Sh->(∀ e,Sh e->Sh0 e\/w0.heap.size<=e)->zar Tryz.prog Goal Sh (fun _=>False) (G (c0.finish (.slice (some ⟨bo,0,none⟩) M M)) cs0) u) ->
  zar Tryz.prog Goal Sh0 (fun _=>False) (G (Frame.enter Tryz.prog 30 #[.agg #[.int .i64 wd,.slice ga n cap],.func (.func 10) #[] #[]] .normal) (c0::cs0)) w0
def zri(Goal:Machine->Trace->Prop)(wd:Int)(ga:Option Addr)(n cap M:Nat)(l0:List (Nat × Obj))(Kc:Nat->Prop)(objL:Obj):Prop :=
 ∀(Sh0:Nat->Prop) (c0:Frame) (cs0:List Frame) (w0:World),Hp l0 w0->(∀ e,Kc e->e<w0.heap.size/\¬ Sh0 e)->(∀(u:World) (bo:Nat) (Sh:Nat->Prop),zbK (fun e=>e<w0.heap.size/\¬ Sh0 e) w0 u->w0.heap.size<=bo->u.heap[bo]?=some objL->¬ Sh bo->(∀ e,Sh e->Sh0 e\/w0.heap.size<=e)->zar Tryz.prog Goal Sh (fun _=>False) (G (c0.finish (.slice (some ⟨bo,0,none⟩) M M)) cs0) u) ->
  zar Tryz.prog Goal Sh0 (fun _=>False) (G (Frame.enter Tryz.prog 13 #[.agg #[.int .i64 wd,.slice ga n cap]] .normal) (c0::cs0)) w0
theorem zdI.mono{B B':Nat}{u u2:World}{bo:Nat}(h:zdI RowP M B u bo xs bsf Sh)(hB:B'<=B)(hk:∀ e o,B<=e->u.heap[e]?=some o->u2.heap[e]?=some o):zdI RowP M B' u2 bo xs bsf Sh :=
 ⟨by have:=h.new;omega,hk _ _ h.new h.all,fun k q=>⟨(h.row k q).1,fun p hp=>hk _ _ ((h.row k q).2.2 p hp).1 ((h.row k q).2.1 p hp),fun p hp=>⟨by have:=((h.row k q).2.2 p hp).1;omega,((h.row k q).2.2 p hp).2⟩⟩,h.once,h.seen,h.rows⟩
section
variable{Goal:Machine->Trace->Prop}{c:Frame}{cs:List Frame}
set_option maxRecDepth 100000 in
theorem zsu(hG:za7 Tryz.prog Goal)(hl0:∀ p∈l0,Kc p.1)(hfeet:zi7 Goal wd ga n cap M l0 Kc RowP){bl:Nat}(hp0:Hp l0 u0)(hK0:∀ e,Kc e->e<u0.heap.size/\¬ Sh0 e)(hs:u0.heap[bs]?=some (.cells #[.int .i64 0,.slice none 0 0,.slice none 0 0,.slice none 0 0] 30))(hsn:¬ Sh0 bs)(hfin:∀(u2:World) (bf:Nat) (xs:Nat->Value) (bsf:Nat->List (Nat × Obj)) (Sh:Nat->Prop),zbK (fun e=>e<u0.heap.size/\¬ Sh0 e/\e≠bs) u0 u2->zdI RowP M u0.heap.size u2 bf xs bsf Sh->(∀ e,Sh e->Sh0 e\/u0.heap.size<=e)->zar Tryz.prog Goal Sh (fun _=>False) (G (c.finish (.tuple #[.agg #[.int .i64 wd,.slice (some ⟨bc,0,none⟩) n n,.slice (some ⟨bl,0,none⟩) M M,.slice (some ⟨bf,0,none⟩) M M],.bool true])) cs) u2)(y0 y1 y3 y4 y5 y6 y7 y8 y10 y13 y14:Value) :
  zar Tryz.prog Goal Sh0 (fun _=>False) (G ((base 7).at ⟨#[y0,y1,.pointer (some ⟨bs,0,none⟩),y3,y4,y5,y6,y7,y8,.agg #[.int .i64 wd,.slice (some ⟨bc,0,none⟩) n n],y10,.slice (some ⟨bl,0,none⟩) M M,.agg #[.int .i64 wd,.slice ga n cap],y13,y14],[]⟩ [.inRegion zeM [5,6,7,8],.code .ret]) (c::cs)) u0:=by
 refine zar.way hG (ch:=0) (K:=Kc) (S:=fun _=>False) (l:=l0) (lx:=[]) hp0 (fun p h=>.inl (hl0 p h)) (fun _ h=>by cases h) (fun _ h=>by cases h) (fun _ h=>h.elim) (fun e he=>⟨(hK0 e (he.elim id fun x=>x.elim)).1,(hK0 e (he.elim id fun x=>x.elim)).2,fun h=>h⟩) ?_
 simp only[zeM,Tryz.f7]
 skip
 refine zag.enter rfl rfl (by decide) (fun w=>run_call_body rfl Tryz.func30 rfl rfl) (fun w=>events_call_body rfl Tryz.func30 rfl rfl _) ?_
 walk_nrm
 refine zag.stop fun hl1 w1 hp1 _ hlt1=>?_
 intro hsz1 hnew1 hx1 hKS1 _ hkept1 ht1 ho1 hu1
 have hlt:=(gei hs).1
 refine hfeet Sh0 _ _ w1 (fun p h=>hp1 p h) (fun e he=>⟨by have:=(hK0 e he).1;omega,(hK0 e he).2⟩) fun u bf xs bsf Sh hk hF hSh=>?_
 simp only[Frame.finish_at]
 walk_nrm
 obtain⟨a1,a2,a3,a4,a5⟩:=hk
 have hsu:u.heap[bs]?=some (.cells #[.int .i64 0,.slice none 0 0,.slice none 0 0,.slice none 0 0] 30):=(a1 bs ⟨by omega,hsn⟩).trans ((hkept1 bs hlt (fun h=>h)).trans hs)
 refine scD hG (wd:=wd) (n:=n) (M:=M) (bs:=bs) (bc:=bc) (bl:=bl) (bf:=bf) hsu (fun h=>by rcases hSh bs h with h|h;exact hsn h;omega) (fun u2 hk2=>?_) _ _ _ _ _ _ _ _ _ _ _
 obtain⟨b1,b2,b3,b4,b5⟩:=hk2
 have hfm:∀ e o,w1.heap.size<=e->u.heap[e]?=some o->u2.heap[e]?=some o:=fun e o q1 q2=>(b1 e ⟨(gei q2).1,by omega⟩).trans q2
 exact hfin u2 bf xs bsf Sh ⟨fun e he=>((b1 e ⟨by omega,he.2.2⟩).trans (a1 e ⟨by omega,he.2.1⟩)).trans (hkept1 e he.1 (fun h=>h)),b2.trans (a2.trans ht1),b3.trans (a3.trans ho1),b4.trans (a4.trans hu1),by omega⟩ (hF.mono hsz1 hfm) (fun e he=>(hSh e he).imp id fun h=>by omega)
set_option maxRecDepth 100000 in
theorem zsv(hG:za7 Tryz.prog Goal)(hl0:∀ p∈l0,Kc p.1)(hfeet:zi7 Goal wd ga n cap M l0 Kc RowP){bl:Nat}(hp0:Hp l0 u0)(hK0:∀ e,Kc e->e<u0.heap.size/\¬ Sh0 e)(hs:u0.heap[bs]?=some (.cells #[.int .i64 0,.slice none 0 0,.slice none 0 0,.slice none 0 0] 30))(hsn:¬ Sh0 bs)(hb:u0.heap[bg]?=some (.cells #[.int .i64 wd,.slice ga n cap] 25))(hbn:¬ Sh0 bg)(hfin:∀(u2:World) (bf:Nat) (xs:Nat->Value) (bsf:Nat->List (Nat × Obj)) (Sh:Nat->Prop),zbK (fun e=>e<u0.heap.size/\¬ Sh0 e/\e≠bs) u0 u2->zdI RowP M u0.heap.size u2 bf xs bsf Sh->(∀ e,Sh e->Sh0 e\/u0.heap.size<=e)->zar Tryz.prog Goal Sh (fun _=>False) (G (c.finish (.tuple #[.agg #[.int .i64 wd,.slice (some ⟨bc,0,none⟩) n n,.slice (some ⟨bl,0,none⟩) M M,.slice (some ⟨bf,0,none⟩) M M],.bool true])) cs) u2)(y0 y3 y4 y5 y6 y7 y8 y10 y12 y13 y14:Value) :
  zar Tryz.prog Goal Sh0 (fun _=>False) (G ((base 7).at ⟨#[y0,.pointer (some ⟨bg,0,none⟩),.pointer (some ⟨bs,0,none⟩),y3,y4,y5,y6,y7,y8,.agg #[.int .i64 wd,.slice (some ⟨bc,0,none⟩) n n],y10,.slice (some ⟨bl,0,none⟩) M M,y12,y13,y14],[]⟩ [.inRegion zeM [4,5,6,7,8],.code .ret]) (c::cs)) u0:=by
 refine zar.way hG (ch:=0) (K:=fun e=>Kc e\/e=bg) (S:=fun _=>False) (l:=(bg,.cells #[.int .i64 wd,.slice ga n cap] 25)::l0) (lx:=[]) (fun p h=>by rcases List.mem_cons.1 h with rfl|h;exact hb;exact hp0 p h) (fun p h=>by rcases List.mem_cons.1 h with rfl|h;exact .inl (.inr rfl);exact .inl (.inl (hl0 p h))) (fun _ h=>by cases h) (fun _ h=>by cases h) (fun _ h=>h.elim) (fun e he=>by rcases he with (he|rfl)|he;exact⟨(hK0 e he).1,(hK0 e he).2,fun h=>h⟩;exact⟨(gei hb).1,hbn,fun h=>h⟩;exact he.elim) ?_
 simp only[zeM,Tryz.f7]
 refine zag.val rfl rfl (by decide) (v:=.agg #[.int .i64 wd,.slice ga n cap]) (fun w hp=>?_) (fun hl w hp e he=>?_) ?_
 ·have c0:=hp.cell mcs 0 rfl
  have c1:=hp.cell mcs 1 rfl
  go_simp
 ·have c0:=hp.cell mcs 0 rfl
  have c1:=hp.cell mcs 1 rfl
  simp[go_sem, *] at he
  rcases he with rfl|rfl
  all_goals exact zat hl mcs _
 walk_nrm
 refine zag.enter rfl rfl (by decide) (fun w=>run_call_body rfl Tryz.func30 rfl rfl) (fun w=>events_call_body rfl Tryz.func30 rfl rfl _) ?_
 walk_nrm
 refine zag.stop fun hl1 w1 hp1 _ hlt1=>?_
 intro hsz1 hnew1 hx1 hKS1 _ hkept1 ht1 ho1 hu1
 have hlt:=(gei hs).1
 refine hfeet Sh0 _ _ w1 (fun p h=>hp1 p (mcm h)) (fun e he=>⟨by have:=(hK0 e he).1;omega,(hK0 e he).2⟩) fun u bf xs bsf Sh hk hF hSh=>?_
 simp only[Frame.finish_at]
 walk_nrm
 obtain⟨a1,a2,a3,a4,a5⟩:=hk
 have hsu:u.heap[bs]?=some (.cells #[.int .i64 0,.slice none 0 0,.slice none 0 0,.slice none 0 0] 30):=(a1 bs ⟨by omega,hsn⟩).trans ((hkept1 bs hlt (fun h=>h)).trans hs)
 refine scD hG (wd:=wd) (n:=n) (M:=M) (bs:=bs) (bc:=bc) (bl:=bl) (bf:=bf) hsu (fun h=>by rcases hSh bs h with h|h;exact hsn h;omega) (fun u2 hk2=>?_) _ _ _ _ _ _ _ _ _ _ _
 obtain⟨b1,b2,b3,b4,b5⟩:=hk2
 have hfm:∀ e o,w1.heap.size<=e->u.heap[e]?=some o->u2.heap[e]?=some o:=fun e o q1 q2=>(b1 e ⟨(gei q2).1,by omega⟩).trans q2
 exact hfin u2 bf xs bsf Sh ⟨fun e he=>((b1 e ⟨by omega,he.2.2⟩).trans (a1 e ⟨by omega,he.2.1⟩)).trans (hkept1 e he.1 (fun h=>h)),b2.trans (a2.trans ht1),b3.trans (a3.trans ho1),b4.trans (a4.trans hu1),by omega⟩ (hF.mono hsz1 hfm) (fun e he=>(hSh e he).imp id fun h=>by omega)
set_option maxRecDepth 100000 in
theorem zss(hG:za7 Tryz.prog Goal)(hl0:∀ p∈l0,Kc p.1)(hfeet:zi7 Goal wd ga n cap M l0 Kc RowP)(hpic:zri Goal wd ga n cap M l0 Kc objL)(hp0:Hp l0 u0)(hK0:∀ e,Kc e->e<u0.heap.size/\¬ Sh0 e)(hs:u0.heap[bs]?=some (.cells #[.int .i64 0,.slice none 0 0,.slice none 0 0,.slice none 0 0] 30))(hsn:¬ Sh0 bs)(hb:u0.heap[bg]?=some (.cells #[.int .i64 wd,.slice ga n cap] 25))(hbn:¬ Sh0 bg)(hfin:∀(u2:World) (bl bf:Nat) (xs:Nat->Value) (bsf:Nat->List (Nat × Obj)) (Sh:Nat->Prop),zbK (fun e=>e<u0.heap.size/\¬ Sh0 e/\e≠bs) u0 u2->u0.heap.size<=bl->u2.heap[bl]?=some objL->¬ Sh bl->(∀ k,k<M->∀ p∈bsf k,p.1≠bl)->bl≠bf->zdI RowP M u0.heap.size u2 bf xs bsf Sh->(∀ e,Sh e->Sh0 e\/u0.heap.size<=e)->zar Tryz.prog Goal Sh (fun _=>False) (G (c.finish (.tuple #[.agg #[.int .i64 wd,.slice (some ⟨bc,0,none⟩) n n,.slice (some ⟨bl,0,none⟩) M M,.slice (some ⟨bf,0,none⟩) M M],.bool true])) cs) u2)(y0 y3 y4 y5 y6 y7 y8 y11 y13 y14:Value) :
  zar Tryz.prog Goal Sh0 (fun _=>False) (G ((base 7).at ⟨#[y0,.pointer (some ⟨bg,0,none⟩),.pointer (some ⟨bs,0,none⟩),y3,y4,y5,y6,y7,y8,.agg #[.int .i64 wd,.slice (some ⟨bc,0,none⟩) n n],.agg #[.int .i64 wd,.slice ga n cap],y11,.agg #[.int .i64 wd,.slice ga n cap],y13,y14],[]⟩ [.inRegion zeM [3,5,6,7,8],.code .ret]) (c::cs)) u0:=by
 refine zar.way hG (ch:=0) (K:=Kc) (S:=fun _=>False) (l:=l0) (lx:=[]) hp0 (fun p h=>.inl (hl0 p h)) (fun _ h=>by cases h) (fun _ h=>by cases h) (fun _ h=>h.elim) (fun e he=>⟨(hK0 e (he.elim id fun x=>x.elim)).1,(hK0 e (he.elim id fun x=>x.elim)).2,fun h=>h⟩) ?_
 simp only[zeM,Tryz.f7]
 refine zag.enter rfl rfl (by decide) (fun w=>run_call_body rfl Tryz.func13 rfl rfl) (fun w=>events_call_body rfl Tryz.func13 rfl rfl _) ?_
 walk_nrm
 refine zag.stop fun hl1 w1 hp1 _ hlt1=>?_
 intro hsz1 hnew1 hx1 hKS1 _ hkept1 ht1 ho1 hu1
 have hlt:=(gei hs).1
 have hbt:=(gei hb).1
 refine hpic Sh0 _ _ w1 hp1 (fun e he=>⟨by have:=(hK0 e he).1;omega,(hK0 e he).2⟩) fun u bl Sh hk hbl hLo hnl hSh=>?_
 simp only[Frame.finish_at]
 walk_nrm
 obtain⟨a1,a2,a3,a4,a5⟩:=hk
 have hkeep:∀ e o,u0.heap[e]?=some o->¬ Sh0 e->u.heap[e]?=some o/\¬ Sh e:=fun e o q1 q2=>by
  have q3:=(gei q1).1
  exact⟨(a1 e ⟨by omega,q2⟩).trans ((hkept1 e q3 (fun h=>h)).trans q1),fun h=>by rcases hSh e h with h|h;exact q2 h;omega⟩
 have hblu:=(gei hLo).1
 refine zsu hG hl0 hfeet (bl:=bl) (bc:=bc) (n:=n) (fun p h=>(hkeep p.1 p.2 (hp0 p h) (hK0 _ (hl0 p h)).2).1) (fun e he=>⟨by have:=(hK0 e he).1;omega,fun h=>by rcases hSh e h with h|h;exact(hK0 e he).2 h;have:=(hK0 e he).1;omega⟩) (hkeep bs _ hs hsn).1 (hkeep bs _ hs hsn).2 (fun u2 bf xs bsf Sh2 hk2 hF hSh2=>?_) _ _ _ _ _ _ _ _ _ _ _
 obtain⟨b1,b2,b3,b4,b5⟩:=hk2
 refine hfin u2 bl bf xs bsf Sh2 ⟨fun e he=>?_,b2.trans (a2.trans ht1),b3.trans (a3.trans ho1),b4.trans (a4.trans hu1),by omega⟩ (by omega) ((b1 bl ⟨hblu,hnl,by omega⟩).trans hLo) (fun h=>by rcases hSh2 bl h with h|h;exact hnl h;omega) (fun k hk3 p hp3 e=>by have:=((hF.row k hk3).2.2 p hp3).1;omega) (by have:=hF.new;omega) (hF.mono (by omega) (fun e o _ q=>q)) (fun e he=>by rcases hSh2 e he with h|h;(rcases hSh e h with h|h;exact .inl h;exact .inr (by omega));exact .inr (by omega))
 have h1:¬ Sh e:=fun h=>by rcases hSh e h with h|h;exact he.2.1 h;have:=he.1;omega
 exact((b1 e ⟨by have:=he.1;omega,h1,he.2.2⟩).trans (a1 e ⟨by have:=he.1;omega,he.2.1⟩)).trans (hkept1 e he.1 (fun h=>h))
set_option maxRecDepth 100000 in
theorem zst(hG:za7 Tryz.prog Goal)(hl0:∀ p∈l0,Kc p.1)(hfeet:zi7 Goal wd ga n cap M l0 Kc RowP)(hpic:zri Goal wd ga n cap M l0 Kc objL)(hp0:Hp l0 u0)(hK0:∀ e,Kc e->e<u0.heap.size/\¬ Sh0 e)(hs:u0.heap[bs]?=some (.cells #[.int .i64 0,.slice none 0 0,.slice none 0 0,.slice none 0 0] 30))(hsn:¬ Sh0 bs)(hb:u0.heap[bg]?=some (.cells #[.int .i64 wd,.slice ga n cap] 25))(hbn:¬ Sh0 bg)(hfin:∀(u2:World) (bl bf:Nat) (xs:Nat->Value) (bsf:Nat->List (Nat × Obj)) (Sh:Nat->Prop),zbK (fun e=>e<u0.heap.size/\¬ Sh0 e/\e≠bs) u0 u2->u0.heap.size<=bl->u2.heap[bl]?=some objL->¬ Sh bl->(∀ k,k<M->∀ p∈bsf k,p.1≠bl)->bl≠bf->zdI RowP M u0.heap.size u2 bf xs bsf Sh->(∀ e,Sh e->Sh0 e\/u0.heap.size<=e)->zar Tryz.prog Goal Sh (fun _=>False) (G (c.finish (.tuple #[.agg #[.int .i64 wd,.slice (some ⟨bc,0,none⟩) n n,.slice (some ⟨bl,0,none⟩) M M,.slice (some ⟨bf,0,none⟩) M M],.bool true])) cs) u2)(y0 y3 y4 y5 y6 y7 y8 y11 y12 y13 y14:Value) :
  zar Tryz.prog Goal Sh0 (fun _=>False) (G ((base 7).at ⟨#[y0,.pointer (some ⟨bg,0,none⟩),.pointer (some ⟨bs,0,none⟩),y3,y4,y5,y6,y7,y8,.agg #[.int .i64 wd,.slice (some ⟨bc,0,none⟩) n n],.agg #[.int .i64 wd,.slice ga n cap],y11,y12,y13,y14],[]⟩ [.inRegion zeM [3,4,5,6,7,8],.code .ret]) (c::cs)) u0:=by
 refine zar.way hG (ch:=0) (K:=Kc) (S:=fun _=>False) (l:=l0) (lx:=[]) hp0 (fun p h=>.inl (hl0 p h)) (fun _ h=>by cases h) (fun _ h=>by cases h) (fun _ h=>h.elim) (fun e he=>⟨(hK0 e (he.elim id fun x=>x.elim)).1,(hK0 e (he.elim id fun x=>x.elim)).2,fun h=>h⟩) ?_
 simp only[zeM,Tryz.f7]
 refine zag.enter rfl rfl (by decide) (fun w=>run_call_body rfl Tryz.func13 rfl rfl) (fun w=>events_call_body rfl Tryz.func13 rfl rfl _) ?_
 walk_nrm
 refine zag.stop fun hl1 w1 hp1 _ hlt1=>?_
 intro hsz1 hnew1 hx1 hKS1 _ hkept1 ht1 ho1 hu1
 have hlt:=(gei hs).1
 have hbt:=(gei hb).1
 refine hpic Sh0 _ _ w1 hp1 (fun e he=>⟨by have:=(hK0 e he).1;omega,(hK0 e he).2⟩) fun u bl Sh hk hbl hLo hnl hSh=>?_
 simp only[Frame.finish_at]
 walk_nrm
 obtain⟨a1,a2,a3,a4,a5⟩:=hk
 have hkeep:∀ e o,u0.heap[e]?=some o->¬ Sh0 e->u.heap[e]?=some o/\¬ Sh e:=fun e o q1 q2=>by
  have q3:=(gei q1).1
  exact⟨(a1 e ⟨by omega,q2⟩).trans ((hkept1 e q3 (fun h=>h)).trans q1),fun h=>by rcases hSh e h with h|h;exact q2 h;omega⟩
 have hblu:=(gei hLo).1
 refine zsv hG hl0 hfeet (bl:=bl) (bc:=bc) (n:=n) (fun p h=>(hkeep p.1 p.2 (hp0 p h) (hK0 _ (hl0 p h)).2).1) (fun e he=>⟨by have:=(hK0 e he).1;omega,fun h=>by rcases hSh e h with h|h;exact(hK0 e he).2 h;have:=(hK0 e he).1;omega⟩) (hkeep bs _ hs hsn).1 (hkeep bs _ hs hsn).2 (hkeep bg _ hb hbn).1 (hkeep bg _ hb hbn).2 (fun u2 bf xs bsf Sh2 hk2 hF hSh2=>?_) _ _ _ _ _ _ _ _ _ _ _
 obtain⟨b1,b2,b3,b4,b5⟩:=hk2
 refine hfin u2 bl bf xs bsf Sh2 ⟨fun e he=>?_,b2.trans (a2.trans ht1),b3.trans (a3.trans ho1),b4.trans (a4.trans hu1),by omega⟩ (by omega) ((b1 bl ⟨hblu,hnl,by omega⟩).trans hLo) (fun h=>by rcases hSh2 bl h with h|h;exact hnl h;omega) (fun k hk3 p hp3 e=>by have:=((hF.row k hk3).2.2 p hp3).1;omega) (by have:=hF.new;omega) (hF.mono (by omega) (fun e o _ q=>q)) (fun e he=>by rcases hSh2 e he with h|h;(rcases hSh e h with h|h;exact .inl h;exact .inr (by omega));exact .inr (by omega))
 have h1:¬ Sh e:=fun h=>by rcases hSh e h with h|h;exact he.2.1 h;have:=he.1;omega
 exact((b1 e ⟨by have:=he.1;omega,h1,he.2.2⟩).trans (a1 e ⟨by have:=he.1;omega,he.2.1⟩)).trans (hkept1 e he.1 (fun h=>h))
