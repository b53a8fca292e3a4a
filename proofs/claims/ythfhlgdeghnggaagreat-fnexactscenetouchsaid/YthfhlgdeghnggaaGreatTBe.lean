/- Part. -/
import Derived.Test.YthfhlgdeghnggaaGreatTBd
set_option maxHeartbeats 40000000
set_option linter.unusedVariables false
namespace Go.Proofs.YthfhlgdeghnggaaGreat
variable{cs:List (Int × Int)}{l l':List (Nat × Obj)}{w0 x:World}
namespace Sp
open Go.RowKit
structure zdK(w0 x:World)(l:List (Nat × Obj)):Prop where
 below:Below w0.heap.size w0 x
 lies:∀ p∈l,x.heap[p.1]?=some p.2/\w0.heap.size<=p.1
 once:(l.map (·.1)).Nodup
theorem zdK.more{x':World}(h:zdK w0 x l)(hb:Below x.heap.size x x'){b:Nat}{o:Obj}(ho:x'.heap[b]?=some o)(hn:x.heap.size<=b):zdK w0 x' ((b,o)::l):=by
 have hz:=h.below.size
 refine⟨⟨hb.os.trans h.below.os,hb.tape.trans h.below.tape,hb.output.trans h.below.output,Nat.le_trans hz hb.size,fun k hk=>(hb.block k (by omega)).trans (h.below.block k hk)⟩,fun p hp=>?_,?_⟩
 ·rcases List.mem_cons.1 hp with rfl|hp
  ·exact⟨ho,by omega⟩
  ·have q:=h.lies p hp
   exact⟨(hb.block p.1 (gei q.1).1).trans q.1,q.2⟩
 ·rw[List.map_cons,List.nodup_cons]
  refine⟨fun hm=>?_,h.once⟩
  obtain⟨p,hp,e⟩:=List.mem_map.1 hm
  have:=(gei (h.lies p hp).1).1
  omega
theorem zdK.made(h:zdK w0 x l)(o:Obj):zdK w0 (x.alloc o) ((x.heap.size,o)::l) :=
 h.more ((Below.refl _ _).alloc (Nat.le_refl _) _) (heap_alloc_new _ _) (Nat.le_refl _)
theorem zrG{B g c:Nat}(hp:0<cs.length)(h:Own x B (.slice (some ⟨g,0,none⟩) cs.length c) cs):∃ cur,B<=g/\x.heap[g]?=some (.cells cur 48)/\∀(y:World) (B':Nat),B'<=g->y.heap[g]?=some (.cells cur 48)->Own y B' (.slice (some ⟨g,0,none⟩) cs.length c) cs:=by
 obtain⟨h1,h2⟩:=h
 rcases h2 with ⟨q,_⟩|⟨g',cp,cur,q1,q2,q3,q4⟩
 ·exact absurd q (by simp)
 ·simp only[Value.slice.injEq,Option.some.injEq,Addr.mk.injEq] at q1
  obtain⟨⟨rfl,_⟩,_,rfl⟩:=q1
  exact⟨cur,q2,q3,fun y B' hB hy=>⟨h1,.inr ⟨_,_,cur,rfl,hB,hy,q4⟩⟩⟩
theorem zs6{w:World}{b5 b1 i:Nat}{v0 v1 v2 v3:Value}(h:b5≠b1):((((w.setCell ⟨b5,0,none⟩ v0).setCell ⟨b5,1,none⟩ v1).setCell ⟨b5,2,none⟩ v2).setCell ⟨b5,3,none⟩ v3).cell? ⟨b1,i,none⟩=w.cell? ⟨b1,i,none⟩:=by
 rw[World.cell?_setCell_far _ _ _ _ h,World.cell?_setCell_far _ _ _ _ h,World.cell?_setCell_far _ _ _ _ h,World.cell?_setCell_far _ _ _ _ h]
noncomputable abbrev zeS:Array Oper:=match Tryz.f50.body with|some (.seq _ (.seq _ (.seq _ (.seq (.region _ o _) _))))=>o|_=>#[]
def cn{α:Type}:Option α->Nat
 | none=>1
 | some _=>0
def vG(wd:Int)(n:Nat)(u:Value):Option (Nat × Nat × Array Value)->Value
 | none=>u
 | some p=>.agg #[.int .i64 wd,.slice (some ⟨p.1,0,none⟩) n p.2.1]
def vS(M:Nat)(u:Value):Option Nat->Value
 | none=>u
 | some b=>.slice (some ⟨b,0,none⟩) M M
def vP(u:Value):Option Nat->Value
 | none=>u
 | some b=>.pointer (some ⟨b,0,none⟩)
def lG:Option (Nat × Nat × Array Value)->List (Nat × Obj)
 | none=>[]
 | some p=>[(p.1,.cells p.2.2 48)]
def lO(ob:Obj):Option Nat->List (Nat × Obj)
 | none=>[]
 | some b=>[(b,ob)]
theorem zdK.perm(h:zdK w0 x l)(p:l.Perm l'):zdK w0 x l' :=
 ⟨h.below,fun q hq=>h.lies q (p.mem_iff.2 hq),(p.map _).nodup_iff.1 h.once⟩
def rsO(i:Nat):Nat->List Nat
 | 0=>[]
 | _=>[i]
theorem zhH{i j k:Nat}(h:j∈rsO i k):j=i/\k≠0:=by
 cases k with
 | zero=>cases h
 | succ k=>exact⟨List.mem_singleton.1 h,by omega⟩
theorem zfw{α:Type}{o:Option α}(h:cn o≠0):o=none:=by
 cases o with
 | none=>rfl
 | some _=>exact absurd rfl h
theorem zdC{α:Type}{o:Option α}(h:cn o=0):∃ p,o=some p:=by
 cases o with
 | none=>cases h
 | some p=>exact⟨p,rfl⟩
theorem zsu:∀(a b c d:Nat),a<=1->b<=1->c<=1->d<=1->a+b+c≠0->Region.ready .any zeS #[true,a == 0,true,b == 0,true,c == 0,false,d == 0,false]=rsO 1 a++(rsO 3 b++(rsO 5 c++rsO 7 d)):=by
 intro a b c d ha hb hc hd h
 rcases (show a=0\/a=1 by omega) with rfl|rfl <;> rcases (show b=0\/b=1 by omega) with rfl|rfl <;> rcases (show c=0\/c=1 by omega) with rfl|rfl <;> rcases (show d=0\/d=1 by omega) with rfl|rfl
 all_goals first|exact absurd rfl h|kernel_rfl
theorem zpk{α:Type}(o:Option α):cn o<=1:=by cases o <;> simp[cn]
set_option maxRecDepth 20000 in
theorem zth{wd:Int}(w0 x:World)(ga:Option Addr)(cap M b1 rv:Nat)(hM20:M<=20)(hp:0<cs.length)(hM:zdK w0 x [(rv,.cells #[.int .i64 0,.slice none 0 0,.slice none 0 0,.slice none 0 0] 35),(b1,.cells #[.int .i64 wd,.slice ga cs.length cap] 33)]){Q:Exit->Act->World->Prop}(hQ:∀ c a d v w,Q (.panic c) (Act.put a d v) w->Q (.panic c) a w)(hcopy:∀ y,Below w0.heap.size w0 y->Calls SqP.prog 63 #[.agg #[.int .i64 wd,.slice ga cs.length cap]] y fun e y'=>∃ g c,e=.returned (.agg #[.int .i64 wd,.slice (some ⟨g,0,none⟩) cs.length c])/\Own y' y.heap.size (.slice (some ⟨g,0,none⟩) cs.length c) cs/\Below y.heap.size y y')(u0 u3 u5 u6 u7 u8 u9 u10 u11 u12 u13 u14 u15 u16 u17 u18 u19 u20 u21 u22 u23 u24 u25 u26 u27 u28:Value)(hend:∀(x:World) (gc c:Nat) (cur:Array Value) (bl bf b5:Nat),(∀(y:World) (B':Nat),B'<=gc->y.heap[gc]?=some (.cells cur 48)->Own y B' (.slice (some ⟨gc,0,none⟩) cs.length c) cs)->zdK w0 x ([(b5,(.cells #[.int .i64 0,.slice none 0 0,.slice none 0 0,.slice none 0 0] 35)),(bf,(.cells (madeCells #[.slice none 0 0] M) 25)),(bl,(.cells (madeCells #[.int .i64 0] M) 3)),(gc,.cells cur 48)]++[(rv,.cells #[.int .i64 0,.slice none 0 0,.slice none 0 0,.slice none 0 0] 35),(b1,.cells #[.int .i64 wd,.slice ga cs.length cap] 33)])->Q .normal ⟨#[u0,.pointer (some ⟨b1,0,none⟩),.pointer (some ⟨rv,0,none⟩),u3,.int .i64 (M:Int),.pointer (some ⟨b5,0,none⟩),u6,u7,u8,u9,u10,u11,u12,.agg #[.int .i64 wd,.slice ga cs.length cap],.agg #[.int .i64 wd,.slice (some ⟨gc,0,none⟩) cs.length c],.int .i64 (M:Int),.slice (some ⟨bl,0,none⟩) M M,.int .i64 (M:Int),.slice (some ⟨bf,0,none⟩) M M,.agg #[.int .i64 wd,.slice (some ⟨gc,0,none⟩) cs.length c,.slice (some ⟨bl,0,none⟩) M M,.slice (some ⟨bf,0,none⟩) M M],u20,u21,u22,u23,u24,u25,u26,u27,u28],[]⟩ ((((x.setCell ⟨b5,0,none⟩ (.int .i64 wd)).setCell ⟨b5,1,none⟩ (.slice (some ⟨gc,0,none⟩) cs.length c)).setCell ⟨b5,2,none⟩ (.slice (some ⟨bl,0,none⟩) M M)).setCell ⟨b5,3,none⟩ (.slice (some ⟨bf,0,none⟩) M M))) :
  (Code.region 4 zeS true).wp SqP.prog Q ⟨#[u0,.pointer (some ⟨b1,0,none⟩),.pointer (some ⟨rv,0,none⟩),u3,.int .i64 (M:Int),u5,u6,u7,u8,u9,u10,u11,u12,u13,u14,u15,u16,u17,u18,u19,u20,u21,u22,u23,u24,u25,u26,u27,u28],[]⟩ x:=by
 have hmk3:=(zkS (aLt:=Sq.altP)) M (by omega)
 have hmk5:=zgS M (by omega)
 have held:∀ {y:World} {l:List (Nat × Obj)},zdK w0 y l->(b1,.cells #[.int .i64 wd,.slice ga cs.length cap] 33)∈l->(fun w=>w.cell? ⟨b1,0,none⟩=some (.int .i64 wd)/\w.cell? ⟨b1,1,none⟩=some (.slice ga cs.length cap)) y:=fun hm hi=>⟨(cell_of_row _ _ 0 _ _ _ (hm.lies _ hi).1).trans rfl,(cell_of_row _ _ 1 _ _ _ (hm.lies _ hi).1).trans rfl⟩
 have leaf:∀(x:World) (gc c:Nat) (cur:Array Value) (bl bf b5:Nat),(∀(y:World) (B':Nat),B'<=gc->y.heap[gc]?=some (.cells cur 48)->Own y B' (.slice (some ⟨gc,0,none⟩) cs.length c) cs)->zdK w0 x ([(b5,(.cells #[.int .i64 0,.slice none 0 0,.slice none 0 0,.slice none 0 0] 35)),(bf,(.cells (madeCells #[.slice none 0 0] M) 25)),(bl,(.cells (madeCells #[.int .i64 0] M) 3)),(gc,.cells cur 48)]++[(rv,.cells #[.int .i64 0,.slice none 0 0,.slice none 0 0,.slice none 0 0] 35),(b1,.cells #[.int .i64 wd,.slice ga cs.length cap] 33)])->(fun w=>w.cell? ⟨b1,0,none⟩=some (.int .i64 wd)/\w.cell? ⟨b1,1,none⟩=some (.slice ga cs.length cap)) x->wpAnyH SqP.prog .any zeS Q (fun w=>w.cell? ⟨b1,0,none⟩=some (.int .i64 wd)/\w.cell? ⟨b1,1,none⟩=some (.slice ga cs.length cap)) 1 #[true,true,true,true,true,true,true,true,false] ⟨#[u0,.pointer (some ⟨b1,0,none⟩),.pointer (some ⟨rv,0,none⟩),u3,.int .i64 (M:Int),.pointer (some ⟨b5,0,none⟩),u6,u7,u8,u9,u10,u11,u12,.agg #[.int .i64 wd,.slice ga cs.length cap],.agg #[.int .i64 wd,.slice (some ⟨gc,0,none⟩) cs.length c],.int .i64 (M:Int),.slice (some ⟨bl,0,none⟩) M M,.int .i64 (M:Int),.slice (some ⟨bf,0,none⟩) M M,.agg #[.int .i64 wd,.slice (some ⟨gc,0,none⟩) cs.length c,.slice (some ⟨bl,0,none⟩) M M,.slice (some ⟨bf,0,none⟩) M M],u20,u21,u22,u23,u24,u25,u26,u27,u28],[]⟩ x:=by
  intro x gc c cur bl bf b5 hown hM hHeld
  have h5:x.heap[b5]?=some (.cells #[.int .i64 0,.slice none 0 0,.slice none 0 0,.slice none 0 0] 35):=(hM.lies (b5,(.cells #[.int .i64 0,.slice none 0 0,.slice none 0 0,.slice none 0 0] 35)) (by simp)).1
  have d0:x.cell? ⟨b5,0,none⟩=some (.int .i64 0):=(cell_of_row _ _ 0 _ _ _ h5).trans rfl
  have d1:x.cell? ⟨b5,1,none⟩=some (.slice none 0 0):=(cell_of_row _ _ 1 _ _ _ h5).trans rfl
  have d2:x.cell? ⟨b5,2,none⟩=some (.slice none 0 0):=(cell_of_row _ _ 2 _ _ _ h5).trans rfl
  have d3:x.cell? ⟨b5,3,none⟩=some (.slice none 0 0):=(cell_of_row _ _ 3 _ _ _ h5).trans rfl
  have f0:=frozen_of_row _ _ 0 _ _ h5
  have f1:=frozen_of_row _ _ 1 _ _ h5
  have f2:=frozen_of_row _ _ 2 _ _ h5
  have f3:=frozen_of_row _ _ 3 _ _ h5
  have hne:b5≠b1:=by have:=hM.once;simp at this;omega
  clear h5
  simp only[zeS,Tryz.f50]
  refine wpAnyH_ready (rs:=[8]) (by kernel_rfl) (by simp) ?_
  refine AllReadyH.cons (o:={ dst:=none,op:=.store 35 (.tmp 5) (.tmp 19),type:=0,pos:= "l13_scene.go:19",after:=#[{ on:=7,ground:=.data },{ on:=6,ground:=.data },{ on:=1,ground:=.chain },{ on:=0,ground:=.phase },{ on:=1,ground:=.phase },{ on:=2,ground:=.phase },{ on:=3,ground:=.phase },{ on:=4,ground:=.phase },{ on:=5,ground:=.phase },{ on:=6,ground:=.phase },{ on:=7,ground:=.phase }],guard:=none }) rfl (fun K hK=>?_) AllReadyH.nil
  go_simp
  refine hK.out _ _ ?_ (fun hHeld=>?_)
  ·exact⟨(zs6 hne).trans hHeld.1,(zs6 hne).trans hHeld.2⟩
  clear hK K
  (try simp only[List.setIfInBounds_toArray,List.set_cons_zero,List.set_cons_succ])
  refine wpAnyH_done (by kernel_rfl) ?_ _
  exact hend x gc c cur bl bf b5 hown hM
 have st:∀(k:Nat) (o1:Option (Nat × Nat × Array Value)) (o3 o5 o7:Option Nat) (x:World),cn o1+cn o3+cn o5+cn o7=k->(∀ p,o1=some p->∀(y:World) (B':Nat),B'<=p.1->y.heap[p.1]?=some (.cells p.2.2 48)->Own y B' (.slice (some ⟨p.1,0,none⟩) cs.length p.2.1) cs)->zdK w0 x (lO (.cells #[.int .i64 0,.slice none 0 0,.slice none 0 0,.slice none 0 0] 35) o7++(lO (.cells (madeCells #[.slice none 0 0] M) 25) o5++(lO (.cells (madeCells #[.int .i64 0] M) 3) o3++(lG o1++[(rv,.cells #[.int .i64 0,.slice none 0 0,.slice none 0 0,.slice none 0 0] 35),(b1,.cells #[.int .i64 wd,.slice ga cs.length cap] 33)]))))->(fun w=>w.cell? ⟨b1,0,none⟩=some (.int .i64 wd)/\w.cell? ⟨b1,1,none⟩=some (.slice ga cs.length cap)) x ->
   wpAnyH SqP.prog .any zeS Q (fun w=>w.cell? ⟨b1,0,none⟩=some (.int .i64 wd)/\w.cell? ⟨b1,1,none⟩=some (.slice ga cs.length cap)) (k+2) #[true,cn o1 == 0,true,cn o3 == 0,true,cn o5 == 0,false,cn o7 == 0,false] ⟨#[u0,.pointer (some ⟨b1,0,none⟩),.pointer (some ⟨rv,0,none⟩),u3,.int .i64 (M:Int),vP u5 o7,u6,u7,u8,u9,u10,u11,u12,.agg #[.int .i64 wd,.slice ga cs.length cap],vG wd cs.length u14 o1,.int .i64 (M:Int),vS M u16 o3,.int .i64 (M:Int),vS M u18 o5,u19,u20,u21,u22,u23,u24,u25,u26,u27,u28],[]⟩ x:=by
  intro k
  induction k with
  | zero =>
   intro o1 o3 o5 o7 x hk hown hM hHeld
   obtain⟨⟨gc,c,cur⟩,rfl⟩:=zdC (o:=o1) (by omega)
   obtain⟨bl,rfl⟩:=zdC (o:=o3) (by omega)
   obtain⟨bf,rfl⟩:=zdC (o:=o5) (by omega)
   obtain⟨b5,rfl⟩:=zdC (o:=o7) (by omega)
   simp only[zeS,Tryz.f50,vG,vS,vP,cn,beq_self_eq_true]
   refine wpAnyH_take (i:=6) (oi:={ dst:=some 19,op:=.build 35 #[(0,.tmp 14),(1,.tmp 16),(2,.tmp 18)],type:=35,pos:= "l13_scene.go:19",after:=#[{ on:=1,ground:=.data },{ on:=3,ground:=.data },{ on:=5,ground:=.data }],guard:=none }) (v:=?vr1_6) rfl (by kernel_rfl) (by kernel_rfl) (by kernel_rfl) (fun _ _ _ h=>hQ _ _ _ _ _ h) (Or.inl ⟨by rfl,?hyr1_6⟩) (by assumption) ?restr1_6
   case hyr1_6=>(intro w hSw;(try dsimp only at hSw);go_simp;try (with_reducible rfl))
   (try simp only[Act.put,List.setIfInBounds_toArray,List.set_cons_zero,List.set_cons_succ])
   exact leaf x gc c cur bl bf b5 (hown _ rfl) hM hHeld
  | succ k ih =>
   intro o1 o3 o5 o7 x hk hown hM hHeld
   by_cases h:cn o1+cn o3+cn o5=0
   ·obtain⟨⟨gc,c,cur⟩,rfl⟩:=zdC (o:=o1) (by omega)
    obtain⟨bl,rfl⟩:=zdC (o:=o3) (by omega)
    obtain⟨bf,rfl⟩:=zdC (o:=o5) (by omega)
    obtain rfl:=zfw (o:=o7) (by omega)
    obtain rfl:k=0:=by simp only[cn] at hk;omega
    simp only[zeS,Tryz.f50,vG,vS,vP,cn,beq_self_eq_true]
    refine wpAnyH_take (i:=6) (oi:={ dst:=some 19,op:=.build 35 #[(0,.tmp 14),(1,.tmp 16),(2,.tmp 18)],type:=35,pos:= "l13_scene.go:19",after:=#[{ on:=1,ground:=.data },{ on:=3,ground:=.data },{ on:=5,ground:=.data }],guard:=none }) (v:=?vr2_6) rfl (by kernel_rfl) (by kernel_rfl) (by kernel_rfl) (fun _ _ _ h=>hQ _ _ _ _ _ h) (Or.inl ⟨by rfl,?hyr2_6⟩) (by assumption) ?restr2_6
    case hyr2_6=>(intro w hSw;(try dsimp only at hSw);go_simp;try (with_reducible rfl))
    (try simp only[Act.put,List.setIfInBounds_toArray,List.set_cons_zero,List.set_cons_succ])
    refine wpAnyH_ready (rs:=[7]) (by kernel_rfl) (by simp) ?_
    refine AllReadyH.cons (o:={ dst:=some 5,op:=.alloc 35,type:=0,pos:= "l13_scene.go:19",after:=#[],guard:=none }) rfl (fun K hK=>?_) AllReadyH.nil
    go_simp
    replace hM:=hM.made (.cells #[.int .i64 0,.slice none 0 0,.slice none 0 0,.slice none 0 0] 35)
    refine hK.out _ _ ?_ (fun hHeld=>?_)
    ·exact held hM (by simp)
    clear hK K
    (try simp only[List.setIfInBounds_toArray,List.set_cons_zero,List.set_cons_succ])
    exact leaf _ gc c cur bl bf _ (hown _ rfl) hM hHeld
   ·refine wpAnyH_ready (rs:=_) (zsu _ _ _ _ (zpk _) (zpk _) (zpk _) (zpk _) h) (fun e=>?_) fun i hi=>?_
    ·have e0:=List.append_eq_nil_iff.1 e
     have e1:=List.append_eq_nil_iff.1 e0.2
     have e2:=List.append_eq_nil_iff.1 e1.2
     have z:∀ {i k:Nat},rsO i k=[]->k=0:=fun {i k} h=>by cases k with|zero=>rfl|succ=>cases h
     exact h (by rw[z e0.1,z e1.1,z e2.1])
    rcases List.mem_append.1 hi with hi|hi
    ·obtain⟨rfl,hn⟩:=zhH hi
     obtain rfl:=zfw hn
     refine(AllReadyH.cons (o:={ dst:=some 14,op:=.call { callee:=.value (.func 63),args:=#[.tmp 13],argTypes:=#[33] },type:=33,pos:= "l13_scene.go:19",after:=#[{ on:=0,ground:=.data }],guard:=none }) rfl (fun K hK=>?_) AllReadyH.nil) _ (List.mem_singleton.2 rfl)
     go_simp
     go_at_call 63
     refine(hcopy x hM.below).mono ?_
     rintro e y ⟨gc,c,rfl,hO,hbn⟩
     obtain⟨cur,ho1,ho2,hown'⟩:=zrG hp hO
     replace hM:=hM.more hbn ho2 ho1
     (try go_wp2_with fail)
     refine hK.out _ _ (held hM (by simp)) (fun hHeld=>?_)
     clear hK K
     (try simp only[List.setIfInBounds_toArray,List.set_cons_zero,List.set_cons_succ])
     exact ih (some (gc,c,cur)) o3 o5 o7 y (by simp only[cn] at hk ⊢;omega) (fun p e=>by obtain rfl:=Option.some.inj e;exact hown') (hM.perm (List.perm_middle.symm.trans (.append_left _ (List.perm_middle.symm.trans (.append_left _ (List.perm_middle.symm)))))) hHeld
    rcases List.mem_append.1 hi with hi|hi
    ·obtain⟨rfl,hn⟩:=zhH hi
     obtain rfl:=zfw hn
     refine(AllReadyH.cons (o:={ dst:=some 16,op:=.makeSlice 25 (.tmp 15) (.tmp 15),type:=25,pos:= "l13_scene.go:19",after:=#[{ on:=2,ground:=.data },{ on:=2,ground:=.data }],guard:=none }) rfl (fun K hK=>?_) AllReadyH.nil) _ (List.mem_singleton.2 rfl)
     go_simp
     replace hM:=hM.made (.cells (madeCells #[.int .i64 0] M) 3)
     refine hK.out _ _ (held hM (by simp)) (fun hHeld=>?_)
     clear hK K
     (try simp only[List.setIfInBounds_toArray,List.set_cons_zero,List.set_cons_succ])
     exact ih o1 (some _) o5 o7 _ (by simp only[cn] at hk ⊢;omega) hown (hM.perm (List.perm_middle.symm.trans (.append_left _ List.perm_middle.symm))) hHeld
    rcases List.mem_append.1 hi with hi|hi
    ·obtain⟨rfl,hn⟩:=zhH hi
     obtain rfl:=zfw hn
     refine(AllReadyH.cons (o:={ dst:=some 18,op:=.makeSlice 26 (.tmp 17) (.tmp 17),type:=26,pos:= "l13_scene.go:19",after:=#[{ on:=4,ground:=.data },{ on:=4,ground:=.data }],guard:=none }) rfl (fun K hK=>?_) AllReadyH.nil) _ (List.mem_singleton.2 rfl)
     go_simp
     replace hM:=hM.made (.cells (madeCells #[.slice none 0 0] M) 25)
     refine hK.out _ _ (held hM (by simp)) (fun hHeld=>?_)
     clear hK K
     (try simp only[List.setIfInBounds_toArray,List.set_cons_zero,List.set_cons_succ])
     exact ih o1 o3 (some _) o7 _ (by simp only[cn] at hk ⊢;omega) hown (hM.perm List.perm_middle.symm) hHeld
    ·obtain⟨rfl,hn⟩:=zhH hi
     obtain rfl:=zfw hn
     refine(AllReadyH.cons (o:={ dst:=some 5,op:=.alloc 35,type:=0,pos:= "l13_scene.go:19",after:=#[],guard:=none }) rfl (fun K hK=>?_) AllReadyH.nil) _ (List.mem_singleton.2 rfl)
     go_simp
     replace hM:=hM.made (.cells #[.int .i64 0,.slice none 0 0,.slice none 0 0,.slice none 0 0] 35)
     refine hK.out _ _ (held hM (by simp)) (fun hHeld=>?_)
     clear hK K
     (try simp only[List.setIfInBounds_toArray,List.set_cons_zero,List.set_cons_succ])
     exact ih o1 o3 o5 (some _) _ (by simp only[cn] at hk ⊢;omega) hown (hM.perm (.refl _)) hHeld
 refine wp_region_held_drew (S:=(fun w=>w.cell? ⟨b1,0,none⟩=some (.int .i64 wd)/\w.cell? ⟨b1,1,none⟩=some (.slice ga cs.length cap))) (by kernel_rfl) ?_ (fun hHeld=>?_)
 ·exact held (y:=x) (l:=[(rv,.cells #[.int .i64 0,.slice none 0 0,.slice none 0 0,.slice none 0 0] 35),(b1,.cells #[.int .i64 wd,.slice ga cs.length cap] 33)]) hM (by simp)
 obtain⟨x0,hx0⟩:∃ x0,x0=x.drew:=⟨_,rfl⟩
 rw[<- hx0] at hHeld ⊢
 replace hM:zdK w0 x0 [(rv,.cells #[.int .i64 0,.slice none 0 0,.slice none 0 0,.slice none 0 0] 35),(b1,.cells #[.int .i64 wd,.slice ga cs.length cap] 33)]:=by
  rw[hx0]
  exact⟨⟨hM.below.os,hM.below.tape,hM.below.output,hM.below.size,hM.below.block⟩,hM.lies,hM.once⟩
 clear hx0
 simp only[zeS,Tryz.f50]
 (try simp only[List.size_toArray,List.length_cons,List.length_nil,Nat.reduceAdd,Nat.zero_add])
 refine wpAnyH_take (i:=0) (oi:={ dst:=some 13,op:=.load 33 (.tmp 1),type:=33,pos:= "l13_scene.go:19",after:=#[],guard:=none }) (v:=?vr3_0) rfl (by kernel_rfl) (by kernel_rfl) (by kernel_rfl) (fun _ _ _ h=>hQ _ _ _ _ _ h) (Or.inl ⟨by rfl,?hyr3_0⟩) (by assumption) ?restr3_0
 case hyr3_0=>(intro w hSw;(try dsimp only at hSw);go_simp;try (with_reducible rfl))
 (try simp only[Act.put,List.setIfInBounds_toArray,List.set_cons_zero,List.set_cons_succ])
 refine wpAnyH_take (i:=2) (oi:={ dst:=some 15,op:=.move (.tmp 4),type:=3,pos:= "l13_scene.go:19",after:=#[],guard:=none }) (v:=?vr4_2) rfl (by kernel_rfl) (by kernel_rfl) (by kernel_rfl) (fun _ _ _ h=>hQ _ _ _ _ _ h) (Or.inl ⟨by rfl,?hyr4_2⟩) (by assumption) ?restr4_2
 case hyr4_2=>(intro w hSw;(try dsimp only at hSw);go_simp;try (with_reducible rfl))
 (try simp only[Act.put,List.setIfInBounds_toArray,List.set_cons_zero,List.set_cons_succ])
 refine wpAnyH_take (i:=4) (oi:={ dst:=some 17,op:=.move (.tmp 4),type:=3,pos:= "l13_scene.go:19",after:=#[],guard:=none }) (v:=?vr5_4) rfl (by kernel_rfl) (by kernel_rfl) (by kernel_rfl) (fun _ _ _ h=>hQ _ _ _ _ _ h) (Or.inl ⟨by rfl,?hyr5_4⟩) (by assumption) ?restr5_4
 case hyr5_4=>(intro w hSw;(try dsimp only at hSw);go_simp;try (with_reducible rfl))
 (try simp only[Act.put,List.setIfInBounds_toArray,List.set_cons_zero,List.set_cons_succ])
 exact st 4 none none none none x0 rfl (fun _ e=>by cases e) hM hHeld
