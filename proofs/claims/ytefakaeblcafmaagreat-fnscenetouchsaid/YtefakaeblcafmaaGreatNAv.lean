/- Part. -/
import Derived.Test.YtefakaeblcafmaaGreatRows
import Derived.Deep.RegionWith
import Derived.ProofKit
import Derived.OpenShut
import Derived.Carry
import Derived.Test.YtefakaeblcafmaaGreatNAs
import Derived.Test.YtefakaeblcafmaaGreatNAu
set_option maxHeartbeats 40000000
set_option maxRecDepth 100000
set_option linter.unusedVariables false
namespace Go.Proofs.YtefakaeblcafmaaGreat
variable{arrF arrL:Array Value}{ok:Bool}{r:Ending}{wd wd':Int}{cs:List (Int × Int)}{F fs:List (List Int)}{l l':List (Nat × Obj)}{L ls:List Int}{B M b hi lo m:Nat}{cp n:Nat->Nat}{f:Nat->Nat->Int}{ad:Nat->Option Addr}{S:Nat->Prop}{xs:Nat->Value}{a:Option Addr}{g:Option Nat}{t:TypeId}{v:Value}{w w' w0 x:World}
open _root_.Go.Proofs.Tryz
namespace Sp
open Go.RowKit
structure zeu(w0 x:World)(l:List (Nat × Obj)):Prop where
 below:Below w0.heap.size w0 x
 lies:∀ p∈l,x.heap[p.1]?=some p.2/\w0.heap.size<=p.1
 once:(l.map (·.1)).Nodup
theorem zeu.more{x':World}(h:zeu w0 x l)(hb:Below x.heap.size x x'){o:Obj}(ho:x'.heap[b]?=some o)(hn:x.heap.size<=b):zeu w0 x' ((b,o)::l):=by
 have hz:=h.below.size
 refine⟨⟨hb.os.trans h.below.os,hb.tape.trans h.below.tape,hb.output.trans h.below.output,Nat.le_trans hz hb.size,fun k hk=>(hb.block k qg).trans (h.below.block k hk)⟩,fun p hp=>?_,?_⟩
 ·rcases List.mem_cons.1 hp with rfl|hp
  ·exact⟨ho,qg⟩
  ·have q:=h.lies p hp
   exact⟨(hb.block p.1 (gei q.1).1).trans q.1,q.2⟩
 ·rw[List.map_cons,List.nodup_cons]
  refine⟨fun hm=>?_,h.once⟩
  obtain⟨p,hp,e⟩:=List.mem_map.1 hm
  have:=(gei (h.lies p hp).1).1
  omega
theorem zeu.made(h:zeu w0 x l)(o:Obj):zeu w0 (x.alloc o) ((x.heap.size,o)::l) :=
 h.more ((Below.refl _ _).alloc (Nat.le_refl _) _) (heap_alloc_new _ _) (Nat.le_refl _)
theorem zrc{g c:Nat}(hp:0<cs.length)(h:Own x B (.slice (some ⟨g,0,none⟩) cs.length c) cs):∃ cur,B<=g/\x.heap[g]?=some (.cells cur 60)/\∀(y:World) (B':Nat),B'<=g->y.heap[g]?=some (.cells cur 60)->Own y B' (.slice (some ⟨g,0,none⟩) cs.length c) cs:=by
 obtain⟨h1,h2⟩:=h
 rcases h2 with ⟨q,_⟩|⟨g',cp,cur,q1,q2,q3,q4⟩
 ·exact absurd q qk
 ·simp only[Value.slice.injEq,Option.some.injEq,Addr.mk.injEq] at q1
  obtain⟨⟨rfl,_⟩,_,rfl⟩:=q1
  exact⟨cur,q2,q3,fun y B' hB hy=>⟨h1,.inr ⟨_,_,cur,rfl,hB,hy,q4⟩⟩⟩
theorem zsx{b5 b1 i:Nat}{v0 v1 v2 v3:Value}(h:b5≠b1):((((w.setCell ⟨b5,0,none⟩ v0).setCell ⟨b5,1,none⟩ v1).setCell ⟨b5,2,none⟩ v2).setCell ⟨b5,3,none⟩ v3).cell? ⟨b1,i,none⟩=w.cell? ⟨b1,i,none⟩:=by
 rw[World.cell?_setCell_far _ _ _ _ h,World.cell?_setCell_far _ _ _ _ h,World.cell?_setCell_far _ _ _ _ h,World.cell?_setCell_far _ _ _ _ h]
noncomputable abbrev zeM:Array Oper:=match Tryz.f17.body with|some (.seq _ (.seq _ (.seq _ (.seq (.region _ o _) _))))=>o|_=>#[]
def cn{α:Type}:Option α->Nat
 | none=>1
 | some _=>0
def vG(wd:Int)(n:Nat)(u:Value):Option (Nat × Nat × Array Value)->Value
 | none=>u
 | some p=>.agg #[.int .i64 wd,.slice (some ⟨p.1,0,none⟩) n p.2.1]
def vS(M:Nat)(u:Value):Option Nat->Value
 | none=>u
 | some b=>.slice (some ⟨b,0,none⟩) M M
def vP(u:Value):Option Nat->Value
 | none=>u
 | some b=>.pointer (some ⟨b,0,none⟩)
def lG:Option (Nat × Nat × Array Value)->List (Nat × Obj)
 | none=>[]
 | some p=>[(p.1,.cells p.2.2 60)]
def lO(ob:Obj):Option Nat->List (Nat × Obj)
 | none=>[]
 | some b=>[(b,ob)]
theorem zeu.perm(h:zeu w0 x l)(p:l.Perm l'):zeu w0 x l' :=
 ⟨h.below,fun q hq=>h.lies q (p.mem_iff.2 hq),(p.map _).nodup_iff.1 h.once⟩
def rsO(i:Nat):Nat->List Nat
 | 0=>[]
 | _=>[i]
theorem zho{i j k:Nat}(h:j∈rsO i k):j=i/\k≠0:=by
 cases k with
 | zero=>cases h
 | succ k=>exact⟨List.mem_singleton.1 h,qg⟩
theorem zfh{α:Type}{o:Option α}(h:cn o≠0):o=none:=by
 cases o with
 | none=>rfl
 | some _=>exact absurd rfl h
theorem zdD{α:Type}{o:Option α}(h:cn o=0):∃ p,o=some p:=by
 cases o with
 | none=>cases h
 | some p=>exact⟨p,rfl⟩
theorem zrW:∀(a b c d:Nat),a<=1->b<=1->c<=1->d<=1->a+b+c≠0->Region.ready .any zeM #[true,a == 0,true,b == 0,true,c == 0,false,d == 0,false]=rsO 1 a++(rsO 3 b++(rsO 5 c++rsO 7 d)):=by
 intro a b c d ha hb hc hd h
 rcases (show a=0\/a=1 by omega) with rfl|rfl <;> rcases (show b=0\/b=1 by omega) with rfl|rfl <;> rcases (show c=0\/c=1 by omega) with rfl|rfl <;> rcases (show d=0\/d=1 by omega) with rfl|rfl
 all_goals first|exact absurd rfl h|kernel_rfl
theorem zoP{α:Type}(o:Option α):cn o<=1:=by cases o <;> simp[cn]
theorem zsI(w0 x:World)(ga:Option Addr)(cap M b1 rv:Nat)(hM20:M<=20)(hp:0<cs.length)(hM:zeu w0 x [(rv,.cells #[.int .i64 0,.slice none 0 0,.slice none 0 0,.slice none 0 0] 29),(b1,.cells #[.int .i64 wd,.slice ga cs.length cap] 25)]){Q:Exit->Act->World->Prop}(hQ:∀ c a d v w,Q (.panic c) (Act.put a d v) w->Q (.panic c) a w)(hcopy:∀ y,Below w0.heap.size w0 y->Calls SqP.prog 28 #[.agg #[.int .i64 wd,.slice ga cs.length cap]] y fun e y'=>∃ g c,e=.returned (.agg #[.int .i64 wd,.slice (some ⟨g,0,none⟩) cs.length c])/\Own y' y.heap.size (.slice (some ⟨g,0,none⟩) cs.length c) cs/\Below y.heap.size y y')(u0 u3 u5 u6 u7 u8 u9 u10 u11 u12 u13 u14 u15 u16 u17 u18 u19 u20 u21 u22 u23 u24 u25 u26 u27 u28:Value)(hend:∀(x:World) (gc c:Nat) (cur:Array Value) (bl bf b5:Nat),(∀(y:World) (B':Nat),B'<=gc->y.heap[gc]?=some (.cells cur 60)->Own y B' (.slice (some ⟨gc,0,none⟩) cs.length c) cs)->zeu w0 x ([(b5,(.cells #[.int .i64 0,.slice none 0 0,.slice none 0 0,.slice none 0 0] 29)),(bf,(.cells (madeCells #[.slice none 0 0] M) 26)),(bl,(.cells (madeCells #[.int .i64 0] M) 3)),(gc,.cells cur 60)]++[(rv,.cells #[.int .i64 0,.slice none 0 0,.slice none 0 0,.slice none 0 0] 29),(b1,.cells #[.int .i64 wd,.slice ga cs.length cap] 25)])->Q .normal ⟨#[u0,.pointer (some ⟨b1,0,none⟩),.pointer (some ⟨rv,0,none⟩),u3,.int .i64 (M:Int),.pointer (some ⟨b5,0,none⟩),u6,u7,u8,u9,u10,u11,u12,.agg #[.int .i64 wd,.slice ga cs.length cap],.agg #[.int .i64 wd,.slice (some ⟨gc,0,none⟩) cs.length c],.int .i64 (M:Int),.slice (some ⟨bl,0,none⟩) M M,.int .i64 (M:Int),.slice (some ⟨bf,0,none⟩) M M,.agg #[.int .i64 wd,.slice (some ⟨gc,0,none⟩) cs.length c,.slice (some ⟨bl,0,none⟩) M M,.slice (some ⟨bf,0,none⟩) M M],u20,u21,u22,u23,u24,u25,u26,u27,u28],[]⟩ ((((x.setCell ⟨b5,0,none⟩ (.int .i64 wd)).setCell ⟨b5,1,none⟩ (.slice (some ⟨gc,0,none⟩) cs.length c)).setCell ⟨b5,2,none⟩ (.slice (some ⟨bl,0,none⟩) M M)).setCell ⟨b5,3,none⟩ (.slice (some ⟨bf,0,none⟩) M M))) :
  (Code.region 4 zeM true).wp SqP.prog Q ⟨#[u0,.pointer (some ⟨b1,0,none⟩),.pointer (some ⟨rv,0,none⟩),u3,.int .i64 (M:Int),u5,u6,u7,u8,u9,u10,u11,u12,u13,u14,u15,u16,u17,u18,u19,u20,u21,u22,u23,u24,u25,u26,u27,u28],[]⟩ x:=by
 have hmk3:=(zku (aLt:=Sq.altP)) M qg
 have hmk5:=zgH M qg
 have held:∀ {y:World} {l:List (Nat × Obj)},zeu w0 y l->(b1,.cells #[.int .i64 wd,.slice ga cs.length cap] 25)∈l->(fun w=>w.cell? ⟨b1,0,none⟩=some (.int .i64 wd)/\w.cell? ⟨b1,1,none⟩=some (.slice ga cs.length cap)) y:=fun hm hi=>⟨(cell_of_row _ _ 0 _ _ _ (hm.lies _ hi).1).trans rfl,(cell_of_row _ _ 1 _ _ _ (hm.lies _ hi).1).trans rfl⟩
 have leaf:∀(x:World) (gc c:Nat) (cur:Array Value) (bl bf b5:Nat),(∀(y:World) (B':Nat),B'<=gc->y.heap[gc]?=some (.cells cur 60)->Own y B' (.slice (some ⟨gc,0,none⟩) cs.length c) cs)->zeu w0 x ([(b5,(.cells #[.int .i64 0,.slice none 0 0,.slice none 0 0,.slice none 0 0] 29)),(bf,(.cells (madeCells #[.slice none 0 0] M) 26)),(bl,(.cells (madeCells #[.int .i64 0] M) 3)),(gc,.cells cur 60)]++[(rv,.cells #[.int .i64 0,.slice none 0 0,.slice none 0 0,.slice none 0 0] 29),(b1,.cells #[.int .i64 wd,.slice ga cs.length cap] 25)])->(fun w=>w.cell? ⟨b1,0,none⟩=some (.int .i64 wd)/\w.cell? ⟨b1,1,none⟩=some (.slice ga cs.length cap)) x->wpAnyH SqP.prog .any zeM Q (fun w=>w.cell? ⟨b1,0,none⟩=some (.int .i64 wd)/\w.cell? ⟨b1,1,none⟩=some (.slice ga cs.length cap)) 1 #[true,true,true,true,true,true,true,true,false] ⟨#[u0,.pointer (some ⟨b1,0,none⟩),.pointer (some ⟨rv,0,none⟩),u3,.int .i64 (M:Int),.pointer (some ⟨b5,0,none⟩),u6,u7,u8,u9,u10,u11,u12,.agg #[.int .i64 wd,.slice ga cs.length cap],.agg #[.int .i64 wd,.slice (some ⟨gc,0,none⟩) cs.length c],.int .i64 (M:Int),.slice (some ⟨bl,0,none⟩) M M,.int .i64 (M:Int),.slice (some ⟨bf,0,none⟩) M M,.agg #[.int .i64 wd,.slice (some ⟨gc,0,none⟩) cs.length c,.slice (some ⟨bl,0,none⟩) M M,.slice (some ⟨bf,0,none⟩) M M],u20,u21,u22,u23,u24,u25,u26,u27,u28],[]⟩ x:=by
  intro x gc c cur bl bf b5 hown hM hHeld
  have h5:x.heap[b5]?=some (.cells #[.int .i64 0,.slice none 0 0,.slice none 0 0,.slice none 0 0] 29):=(hM.lies (b5,(.cells #[.int .i64 0,.slice none 0 0,.slice none 0 0,.slice none 0 0] 29)) qk).1
  have d0:x.cell? ⟨b5,0,none⟩=some (.int .i64 0):=(cell_of_row _ _ 0 _ _ _ h5).trans rfl
  have d1:x.cell? ⟨b5,1,none⟩=some (.slice none 0 0):=(cell_of_row _ _ 1 _ _ _ h5).trans rfl
  have d2:x.cell? ⟨b5,2,none⟩=some (.slice none 0 0):=(cell_of_row _ _ 2 _ _ _ h5).trans rfl
  have d3:x.cell? ⟨b5,3,none⟩=some (.slice none 0 0):=(cell_of_row _ _ 3 _ _ _ h5).trans rfl
  have f0:=frozen_of_row _ _ 0 _ _ h5
  have f1:=frozen_of_row _ _ 1 _ _ h5
  have f2:=frozen_of_row _ _ 2 _ _ h5
  have f3:=frozen_of_row _ _ 3 _ _ h5
  have hne:b5≠b1:=by have:=hM.once;simp at this;omega
  clear h5
  simp only[zeM,Tryz.f17]
  refine wpAnyH_ready (rs:=[8]) qh qk ?_
  refine AllReadyH.cons (o:={ dst:=none,op:=.store 29 (.tmp 5) (.tmp 19),type:=0,pos:= "l13_scene.go:19",after:=#[{ on:=7,ground:=.data },{ on:=6,ground:=.data },{ on:=1,ground:=.chain },{ on:=0,ground:=.phase },{ on:=1,ground:=.phase },{ on:=2,ground:=.phase },{ on:=3,ground:=.phase },{ on:=4,ground:=.phase },{ on:=5,ground:=.phase },{ on:=6,ground:=.phase },{ on:=7,ground:=.phase }],guard:=none }) rfl (fun K hK=>?_) AllReadyH.nil
  go_simp
  refine hK.out _ _ ?_ (fun hHeld=>?_)
  ·exact⟨(zsx hne).trans hHeld.1,(zsx hne).trans hHeld.2⟩
  clear hK K
  (try simp only[asl])
  refine wpAnyH_done qh ?_ _
  exact hend x gc c cur bl bf b5 hown hM
 have st:∀(k:Nat) (o1:Option (Nat × Nat × Array Value)) (o3 o5 o7:Option Nat) (x:World),cn o1+cn o3+cn o5+cn o7=k->(∀ p,o1=some p->∀(y:World) (B':Nat),B'<=p.1->y.heap[p.1]?=some (.cells p.2.2 60)->Own y B' (.slice (some ⟨p.1,0,none⟩) cs.length p.2.1) cs)->zeu w0 x (lO (.cells #[.int .i64 0,.slice none 0 0,.slice none 0 0,.slice none 0 0] 29) o7++(lO (.cells (madeCells #[.slice none 0 0] M) 26) o5++(lO (.cells (madeCells #[.int .i64 0] M) 3) o3++(lG o1++[(rv,.cells #[.int .i64 0,.slice none 0 0,.slice none 0 0,.slice none 0 0] 29),(b1,.cells #[.int .i64 wd,.slice ga cs.length cap] 25)]))))->(fun w=>w.cell? ⟨b1,0,none⟩=some (.int .i64 wd)/\w.cell? ⟨b1,1,none⟩=some (.slice ga cs.length cap)) x ->
   wpAnyH SqP.prog .any zeM Q (fun w=>w.cell? ⟨b1,0,none⟩=some (.int .i64 wd)/\w.cell? ⟨b1,1,none⟩=some (.slice ga cs.length cap)) (k+2) #[true,cn o1 == 0,true,cn o3 == 0,true,cn o5 == 0,false,cn o7 == 0,false] ⟨#[u0,.pointer (some ⟨b1,0,none⟩),.pointer (some ⟨rv,0,none⟩),u3,.int .i64 (M:Int),vP u5 o7,u6,u7,u8,u9,u10,u11,u12,.agg #[.int .i64 wd,.slice ga cs.length cap],vG wd cs.length u14 o1,.int .i64 (M:Int),vS M u16 o3,.int .i64 (M:Int),vS M u18 o5,u19,u20,u21,u22,u23,u24,u25,u26,u27,u28],[]⟩ x:=by
  intro k
  induction k with
  | zero =>
   intro o1 o3 o5 o7 x hk hown hM hHeld
   obtain⟨⟨gc,c,cur⟩,rfl⟩:=zdD (o:=o1) qg
   obtain⟨bl,rfl⟩:=zdD (o:=o3) qg
   obtain⟨bf,rfl⟩:=zdD (o:=o5) qg
   obtain⟨b5,rfl⟩:=zdD (o:=o7) qg
   simp only[zeM,Tryz.f17,vG,vS,vP,cn,beq_self_eq_true]
   refine wpAnyH_take (i:=6) (oi:={ dst:=some 19,op:=.build 29 #[(0,.tmp 14),(1,.tmp 16),(2,.tmp 18)],type:=29,pos:= "l13_scene.go:19",after:=#[{ on:=1,ground:=.data },{ on:=3,ground:=.data },{ on:=5,ground:=.data }],guard:=none }) (v:=?vr1_6) rfl qh qh qh (fun _ _ _ h=>hQ _ _ _ _ _ h) (Or.inl ⟨by rfl,?hyr1_6⟩) qn ?restr1_6
   case hyr1_6=>(intro w hSw;(try dsimp only at hSw);go_simp;try (with_reducible rfl))
   (try simp only[Act.put,asl])
   exact leaf x gc c cur bl bf b5 (hown _ rfl) hM hHeld
  | succ k ih =>
   intro o1 o3 o5 o7 x hk hown hM hHeld
   by_cases h:cn o1+cn o3+cn o5=0
   ·obtain⟨⟨gc,c,cur⟩,rfl⟩:=zdD (o:=o1) qg
    obtain⟨bl,rfl⟩:=zdD (o:=o3) qg
    obtain⟨bf,rfl⟩:=zdD (o:=o5) qg
    obtain rfl:=zfh (o:=o7) qg
    obtain rfl:k=0:=by simp only[cn] at hk;omega
    simp only[zeM,Tryz.f17,vG,vS,vP,cn,beq_self_eq_true]
    refine wpAnyH_take (i:=6) (oi:={ dst:=some 19,op:=.build 29 #[(0,.tmp 14),(1,.tmp 16),(2,.tmp 18)],type:=29,pos:= "l13_scene.go:19",after:=#[{ on:=1,ground:=.data },{ on:=3,ground:=.data },{ on:=5,ground:=.data }],guard:=none }) (v:=?vr2_6) rfl qh qh qh (fun _ _ _ h=>hQ _ _ _ _ _ h) (Or.inl ⟨by rfl,?hyr2_6⟩) qn ?restr2_6
    case hyr2_6=>(intro w hSw;(try dsimp only at hSw);go_simp;try (with_reducible rfl))
    (try simp only[Act.put,asl])
    refine wpAnyH_ready (rs:=[7]) qh qk ?_
    refine AllReadyH.cons (o:={ dst:=some 5,op:=.alloc 29,type:=0,pos:= "l13_scene.go:19",after:=#[],guard:=none }) rfl (fun K hK=>?_) AllReadyH.nil
    go_simp
    replace hM:=hM.made (.cells #[.int .i64 0,.slice none 0 0,.slice none 0 0,.slice none 0 0] 29)
    refine hK.out _ _ ?_ (fun hHeld=>?_)
    ·exact held hM qk
    clear hK K
    (try simp only[asl])
    exact leaf _ gc c cur bl bf _ (hown _ rfl) hM hHeld
   ·refine wpAnyH_ready (rs:=_) (zrW _ _ _ _ (zoP _) (zoP _) (zoP _) (zoP _) h) (fun e=>?_) fun i hi=>?_
    ·have e0:=List.append_eq_nil_iff.1 e
     have e1:=List.append_eq_nil_iff.1 e0.2
     have e2:=List.append_eq_nil_iff.1 e1.2
     have z:∀ {i k:Nat},rsO i k=[]->k=0:=fun {i k} h=>by cases k with|zero=>rfl|succ=>cases h
     exact h (by rw[z e0.1,z e1.1,z e2.1])
    rcases List.mem_append.1 hi with hi|hi
    ·obtain⟨rfl,hn⟩:=zho hi
     obtain rfl:=zfh hn
     refine(AllReadyH.cons (o:={ dst:=some 14,op:=.call { callee:=.value (.func 28),args:=#[.tmp 13],argTypes:=#[25] },type:=25,pos:= "l13_scene.go:19",after:=#[{ on:=0,ground:=.data }],guard:=none }) rfl (fun K hK=>?_) AllReadyH.nil) _ (List.mem_singleton.2 rfl)
     go_simp
     go_at_call 28
     refine(hcopy x hM.below).mono ?_
     rintro e y ⟨gc,c,rfl,hO,hbn⟩
     obtain⟨cur,ho1,ho2,hown'⟩:=zrc hp hO
     replace hM:=hM.more hbn ho2 ho1
     (try go_wp2_with fail)
     refine hK.out _ _ (held hM qk) (fun hHeld=>?_)
     clear hK K
     (try simp only[asl])
     exact ih (some (gc,c,cur)) o3 o5 o7 y (by simp only[cn] at hk ⊢;omega) (fun p e=>by obtain rfl:=Option.some.inj e;exact hown') (hM.perm (List.perm_middle.symm.trans (.append_left _ (List.perm_middle.symm.trans (.append_left _ (List.perm_middle.symm)))))) hHeld
    rcases List.mem_append.1 hi with hi|hi
    ·obtain⟨rfl,hn⟩:=zho hi
     obtain rfl:=zfh hn
     refine(AllReadyH.cons (o:={ dst:=some 16,op:=.makeSlice 26 (.tmp 15) (.tmp 15),type:=26,pos:= "l13_scene.go:19",after:=#[{ on:=2,ground:=.data },{ on:=2,ground:=.data }],guard:=none }) rfl (fun K hK=>?_) AllReadyH.nil) _ (List.mem_singleton.2 rfl)
     go_simp
     replace hM:=hM.made (.cells (madeCells #[.int .i64 0] M) 3)
     refine hK.out _ _ (held hM qk) (fun hHeld=>?_)
     clear hK K
     (try simp only[asl])
     exact ih o1 (some _) o5 o7 _ (by simp only[cn] at hk ⊢;omega) hown (hM.perm (List.perm_middle.symm.trans (.append_left _ List.perm_middle.symm))) hHeld
    rcases List.mem_append.1 hi with hi|hi
    ·obtain⟨rfl,hn⟩:=zho hi
     obtain rfl:=zfh hn
     refine(AllReadyH.cons (o:={ dst:=some 18,op:=.makeSlice 27 (.tmp 17) (.tmp 17),type:=27,pos:= "l13_scene.go:19",after:=#[{ on:=4,ground:=.data },{ on:=4,ground:=.data }],guard:=none }) rfl (fun K hK=>?_) AllReadyH.nil) _ (List.mem_singleton.2 rfl)
     go_simp
     replace hM:=hM.made (.cells (madeCells #[.slice none 0 0] M) 26)
     refine hK.out _ _ (held hM qk) (fun hHeld=>?_)
     clear hK K
     (try simp only[asl])
     exact ih o1 o3 (some _) o7 _ (by simp only[cn] at hk ⊢;omega) hown (hM.perm List.perm_middle.symm) hHeld
    ·obtain⟨rfl,hn⟩:=zho hi
     obtain rfl:=zfh hn
     refine(AllReadyH.cons (o:={ dst:=some 5,op:=.alloc 29,type:=0,pos:= "l13_scene.go:19",after:=#[],guard:=none }) rfl (fun K hK=>?_) AllReadyH.nil) _ (List.mem_singleton.2 rfl)
     go_simp
     replace hM:=hM.made (.cells #[.int .i64 0,.slice none 0 0,.slice none 0 0,.slice none 0 0] 29)
     refine hK.out _ _ (held hM qk) (fun hHeld=>?_)
     clear hK K
     (try simp only[asl])
     exact ih o1 o3 o5 (some _) _ (by simp only[cn] at hk ⊢;omega) hown (hM.perm (.refl _)) hHeld
 refine wp_region_held_drew (S:=(fun w=>w.cell? ⟨b1,0,none⟩=some (.int .i64 wd)/\w.cell? ⟨b1,1,none⟩=some (.slice ga cs.length cap))) qh ?_ (fun hHeld=>?_)
 ·exact held (y:=x) (l:=[(rv,.cells #[.int .i64 0,.slice none 0 0,.slice none 0 0,.slice none 0 0] 29),(b1,.cells #[.int .i64 wd,.slice ga cs.length cap] 25)]) hM qk
 obtain⟨x0,hx0⟩:∃ x0,x0=x.drew:=⟨_,rfl⟩
 rw[<- hx0] at hHeld ⊢
 replace hM:zeu w0 x0 [(rv,.cells #[.int .i64 0,.slice none 0 0,.slice none 0 0,.slice none 0 0] 29),(b1,.cells #[.int .i64 wd,.slice ga cs.length cap] 25)]:=by
  rw[hx0]
  exact⟨⟨hM.below.os,hM.below.tape,hM.below.output,hM.below.size,hM.below.block⟩,hM.lies,hM.once⟩
 clear hx0
 simp only[zeM,Tryz.f17]
 (try simp only[List.size_toArray,List.length_cons,List.length_nil,Nat.reduceAdd,Nat.zero_add])
 refine wpAnyH_take (i:=0) (oi:={ dst:=some 13,op:=.load 25 (.tmp 1),type:=25,pos:= "l13_scene.go:19",after:=#[],guard:=none }) (v:=?vr3_0) rfl qh qh qh (fun _ _ _ h=>hQ _ _ _ _ _ h) (Or.inl ⟨by rfl,?hyr3_0⟩) qn ?restr3_0
 case hyr3_0=>(intro w hSw;(try dsimp only at hSw);go_simp;try (with_reducible rfl))
 (try simp only[Act.put,asl])
 refine wpAnyH_take (i:=2) (oi:={ dst:=some 15,op:=.move (.tmp 4),type:=3,pos:= "l13_scene.go:19",after:=#[],guard:=none }) (v:=?vr4_2) rfl qh qh qh (fun _ _ _ h=>hQ _ _ _ _ _ h) (Or.inl ⟨by rfl,?hyr4_2⟩) qn ?restr4_2
 case hyr4_2=>(intro w hSw;(try dsimp only at hSw);go_simp;try (with_reducible rfl))
 (try simp only[Act.put,asl])
 refine wpAnyH_take (i:=4) (oi:={ dst:=some 17,op:=.move (.tmp 4),type:=3,pos:= "l13_scene.go:19",after:=#[],guard:=none }) (v:=?vr5_4) rfl qh qh qh (fun _ _ _ h=>hQ _ _ _ _ _ h) (Or.inl ⟨by rfl,?hyr5_4⟩) qn ?restr5_4
 case hyr5_4=>(intro w hSw;(try dsimp only at hSw);go_simp;try (with_reducible rfl))
 (try simp only[Act.put,asl])
 exact st 4 none none none none x0 rfl (fun _ e=>by cases e) hM hHeld
end Sp
namespace Sp
open Go.RowKit
attribute [local go_sem ↓] Go.wp_at_zero Go.wp_at_succ
theorem zkv(wd:Int)(a:Option Addr)(cap:Nat)(cs:List (Int × Int))(w:World):zeu w ((w.alloc (.cells #[.int .i64 wd,.slice a cs.length cap] 25)).alloc (.cells #[.int .i64 0,.slice none 0 0,.slice none 0 0,.slice none 0 0] 29)) [(w.heap.size+1,.cells #[.int .i64 0,.slice none 0 0,.slice none 0 0,.slice none 0 0] 29),(w.heap.size,.cells #[.int .i64 wd,.slice a cs.length cap] 25)]:=by
 have h1:zeu w w []:=⟨Below.refl _ _,(fun _ h=>nomatch h),List.nodup_nil⟩
 have h2:=(h1.made (.cells #[.int .i64 wd,.slice a cs.length cap] 25)).made (.cells #[.int .i64 0,.slice none 0 0,.slice none 0 0,.slice none 0 0] 29)
 have e:(w.alloc (.cells #[.int .i64 wd,.slice a cs.length cap] 25)).heap.size=w.heap.size+1:=Array.size_push _
 rw[e] at h2
 exact h2
theorem zeu.on{x':World}(h:zeu w0 x l)(hb:Below x.heap.size x x'):zeu w0 x' l:=by
 have hz:=h.below.size
 refine⟨⟨hb.os.trans h.below.os,hb.tape.trans h.below.tape,hb.output.trans h.below.output,Nat.le_trans hz hb.size,fun k hk=>(hb.block k qg).trans (h.below.block k hk)⟩,fun p hp=>?_,h.once⟩
 have q:=h.lies p hp
 exact⟨(hb.block p.1 (gei q.1).1).trans q.1,q.2⟩
theorem zc5(wd:Int)(a:Option Addr)(cap:Nat)(cs:List (Int × Int))(w:World)(h:zaf w a cs)(hm:cs.length<=1048576)(hk:okG wd cs=false) :
  Calls SqP.prog 17 #[.agg #[.int .i64 wd,.slice a cs.length cap]] w fun e w'=>e=.returned (.tuple #[.agg #[.int .i64 0,.slice none 0 0,.slice none 0 0,.slice none 0 0],.bool false])/\Below w.heap.size w w':=by
 obtain⟨w2,hw2⟩:∃ w2,w2=(w.alloc (.cells #[.int .i64 wd,.slice a cs.length cap] 25)).alloc (.cells #[.int .i64 0,.slice none 0 0,.slice none 0 0,.slice none 0 0] 29):=⟨_,rfl⟩
 have hM:zeu w w2 [(w.heap.size+1,.cells #[.int .i64 0,.slice none 0 0,.slice none 0 0,.slice none 0 0] 29),(w.heap.size,.cells #[.int .i64 wd,.slice a cs.length cap] 25)]:=by rw[hw2];exact zkv wd a cap cs w
 have hG:=(zbA (aLt:=Sq.altP)) wd a cap cs w2 (h.below hM.below) qg
 rw[hk] at hG
 have c0:w2.cell? ⟨w.heap.size,0,none⟩=some (.int .i64 wd):=(cell_of_row _ _ 0 _ _ _ (hM.lies (w.heap.size,.cells #[.int .i64 wd,.slice a cs.length cap] 25) qk).1).trans rfl
 have c1:w2.cell? ⟨w.heap.size,1,none⟩=some (.slice a cs.length cap):=(cell_of_row _ _ 1 _ _ _ (hM.lies (w.heap.size,.cells #[.int .i64 wd,.slice a cs.length cap] 25) qk).1).trans rfl
 have HM:Hid (zeu w w2 [(w.heap.size+1,.cells #[.int .i64 0,.slice none 0 0,.slice none 0 0,.slice none 0 0] 29),(w.heap.size,.cells #[.int .i64 wd,.slice a cs.length cap] 25)]):=hM
 clear hM
 go_enter (zfx func17),ntmps17
 go_upto_region 1 with fail
 rw[<- hw2]
 clear hw2
 go_wp2_with fail
 refine hG.mono ?_
 rintro e w3 ⟨rfl,hb3⟩
 have h3:zeu w w3 [(w.heap.size+1,.cells #[.int .i64 0,.slice none 0 0,.slice none 0 0,.slice none 0 0] 29),(w.heap.size,.cells #[.int .i64 wd,.slice a cs.length cap] 25)]:=HM.out.on hb3
 clear hG hb3 c0 c1
 have hrv:w3.heap[w.heap.size+1]?=some (.cells #[.int .i64 0,.slice none 0 0,.slice none 0 0,.slice none 0 0] 29):=(h3.lies (w.heap.size+1,.cells #[.int .i64 0,.slice none 0 0,.slice none 0 0,.slice none 0 0] 29) qk).1
 have f0:=frozen_of_row _ _ 0 _ _ hrv
 have f1:=frozen_of_row _ _ 1 _ _ hrv
 have f2:=frozen_of_row _ _ 2 _ _ hrv
 have f3:=frozen_of_row _ _ 3 _ _ hrv
 have g0:w3.cell? ⟨w.heap.size+1,0,none⟩=some (.int .i64 0):=(cell_of_row _ _ 0 _ _ _ hrv).trans rfl
 have g1:w3.cell? ⟨w.heap.size+1,1,none⟩=some (.slice none 0 0):=(cell_of_row _ _ 1 _ _ _ hrv).trans rfl
 have g2:w3.cell? ⟨w.heap.size+1,2,none⟩=some (.slice none 0 0):=(cell_of_row _ _ 2 _ _ _ hrv).trans rfl
 have g3:w3.cell? ⟨w.heap.size+1,3,none⟩=some (.slice none 0 0):=(cell_of_row _ _ 3 _ _ _ hrv).trans rfl
 have HR:Hid (w3.heap[w.heap.size+1]?=some (.cells #[.int .i64 0,.slice none 0 0,.slice none 0 0,.slice none 0 0] 29)):=hrv
 have hB3:Hid (Below w.heap.size w w3):=h3.below
 clear hrv HM h3
 go_wp2_with fail
 rw[zbk HR.out (i:=0) (v:=.int .i64 0) rfl,zbk HR.out (i:=1) (v:=.slice none 0 0) rfl,zbk HR.out (i:=2) (v:=.slice none 0 0) rfl,zbk HR.out (i:=3) (v:=.slice none 0 0) rfl]
 refine bodyPost_ret (v:=.tuple #[.agg #[.int .i64 0,.slice none 0 0,.slice none 0 0,.slice none 0 0],.bool false]) (by simp[results,go_sem,g0,g1,g2,g3]) rfl ⟨rfl,hB3.out⟩
theorem zcI{W H:Nat}(S:Siz wd cs W H)(a:Option Addr)(cap:Nat)(w:World)(h:zaf w a cs) :
  Calls SqP.prog 17 #[.agg #[.int .i64 wd,.slice a cs.length cap]] w fun e w'=>∃ gc c bl bf arrL arrF xs,e=.returned (.tuple #[.agg #[.int .i64 wd,.slice (some ⟨gc,0,none⟩) cs.length c,.slice (some ⟨bl,0,none⟩) (2 * (W+H)) (2 * (W+H)),.slice (some ⟨bf,0,none⟩) (2 * (W+H)) (2 * (W+H))],.bool true])/\ScS w w' wd cs (2 * (W+H)) gc c bl bf (2 * (W+H)) arrL arrF xs:=by
 have hn:cs.length<=25:=by rw[S.el];exact Nat.le_trans (Nat.mul_le_mul S.hW.2 S.hH.2) qg
 have hp:0<cs.length:=by rw[S.el];exact Nat.mul_pos (by have:=S.hW;omega) (by have:=S.hH;omega)
 have hk:=S.ok
 obtain⟨M,hMW⟩:∃ M,M=2 * (W+H):=⟨_,rfl⟩
 have hM20:M<=20:=by have:=S.hW;have:=S.hH;omega
 have hmany:∀ w:World,Calls SqP.prog 27 #[.agg #[.int .i64 wd,.slice a cs.length cap]] w fun e w'=>e=.returned (.int .i64 (M:Int))/\Below w.heap.size w w':=by
  intro w
  have e1:(2 * ((W:Int)+(H:Int)))=(M:Int):=qg
  rw[<- e1,S.ew]
  exact zgF W H a cs.length cap w S.hW S.hH.2 qg (by rw[S.el,Nat.mul_div_cancel_left _ (by have:=S.hW;omega)])
 have HH:Hid (zaf w a cs):=h
 have SS:Hid (Siz wd cs W H):=S
 rw[<- hMW]
 have HMW:Hid (M=2 * (W+H)):=hMW
 clear hMW
 obtain⟨w2,hw2⟩:∃ w2,w2=(w.alloc (.cells #[.int .i64 wd,.slice a cs.length cap] 25)).alloc (.cells #[.int .i64 0,.slice none 0 0,.slice none 0 0,.slice none 0 0] 29):=⟨_,rfl⟩
 have hM:zeu w w2 [(w.heap.size+1,.cells #[.int .i64 0,.slice none 0 0,.slice none 0 0,.slice none 0 0] 29),(w.heap.size,.cells #[.int .i64 wd,.slice a cs.length cap] 25)]:=by rw[hw2];exact zkv wd a cap cs w
 have hG:=(zbA (aLt:=Sq.altP)) wd a cap cs w2 (h.below hM.below) qg
 rw[hk] at hG
 have c0:w2.cell? ⟨w.heap.size,0,none⟩=some (.int .i64 wd):=(cell_of_row _ _ 0 _ _ _ (hM.lies (w.heap.size,.cells #[.int .i64 wd,.slice a cs.length cap] 25) qk).1).trans rfl
 have c1:w2.cell? ⟨w.heap.size,1,none⟩=some (.slice a cs.length cap):=(cell_of_row _ _ 1 _ _ _ (hM.lies (w.heap.size,.cells #[.int .i64 wd,.slice a cs.length cap] 25) qk).1).trans rfl
 have HM:Hid (zeu w w2 [(w.heap.size+1,.cells #[.int .i64 0,.slice none 0 0,.slice none 0 0,.slice none 0 0] 29),(w.heap.size,.cells #[.int .i64 wd,.slice a cs.length cap] 25)]):=hM
 clear hM
 go_enter (zfx func17),ntmps17
 go_upto_region 1 with fail
 rw[<- hw2]
 clear hw2
 go_wp2_with fail
 refine hG.mono ?_
 rintro e w3 ⟨rfl,hb3⟩
 have h3:zeu w w3 [(w.heap.size+1,.cells #[.int .i64 0,.slice none 0 0,.slice none 0 0,.slice none 0 0] 29),(w.heap.size,.cells #[.int .i64 wd,.slice a cs.length cap] 25)]:=HM.out.on hb3
 clear hG hb3 c0 c1
 clear S h hk HM
 have c0:w3.cell? ⟨w.heap.size,0,none⟩=some (.int .i64 wd):=(cell_of_row _ _ 0 _ _ _ (h3.lies (w.heap.size,.cells #[.int .i64 wd,.slice a cs.length cap] 25) qk).1).trans rfl
 have c1:w3.cell? ⟨w.heap.size,1,none⟩=some (.slice a cs.length cap):=(cell_of_row _ _ 1 _ _ _ (h3.lies (w.heap.size,.cells #[.int .i64 wd,.slice a cs.length cap] 25) qk).1).trans rfl
 have H3:Hid (zeu w w3 [(w.heap.size+1,.cells #[.int .i64 0,.slice none 0 0,.slice none 0 0,.slice none 0 0] 29),(w.heap.size,.cells #[.int .i64 wd,.slice a cs.length cap] 25)]):=h3
 clear h3
 go_wp2_with fail
 refine(hmany _).mono ?_
 rintro e w4 ⟨rfl,hb4⟩
 have h4:zeu w w4 [(w.heap.size+1,.cells #[.int .i64 0,.slice none 0 0,.slice none 0 0,.slice none 0 0] 29),(w.heap.size,.cells #[.int .i64 wd,.slice a cs.length cap] 25)]:=H3.out.on hb4
 clear hmany hb4 c0 c1 H3
 go_upto_region 4 with fail
 rename_i Q' K hK
 refine zsI w w4 a cap M (w.heap.size) (w.heap.size+1) hM20 hp h4 (fun _ _ d _ _ h=>by cases d <;> exact h) (fun y hy=>?_) _ _ _ _ _ _ _ _ _ _ _ _ _ _ _ _ _ _ _ _ _ _ _ _ _ _ (fun x gc c cur bl bf b5 hown hx=>?_)
 ·obtain h0|⟨b,off,rfl,hbl,hcell⟩:=HH.out.below hy
  ·rw[h0] at hp
   exact absurd hp qk
  ·exact zlo wd b off cap cs y hbl hcell qg hp
 refine hK _ _ ?_
 obtain⟨x9,h9⟩:∃ x9,x9=((((x.setCell ⟨b5,0,none⟩ (.int .i64 wd)).setCell ⟨b5,1,none⟩ (.slice (some ⟨gc,0,none⟩) cs.length c)).setCell ⟨b5,2,none⟩ (.slice (some ⟨bl,0,none⟩) M M)).setCell ⟨b5,3,none⟩ (.slice (some ⟨bf,0,none⟩) M M)):=⟨_,rfl⟩
 rw[<- h9]
 have n:=hx.once
 simp only[List.cons_append,List.nil_append,List.map_cons,List.map_nil,List.nodup_cons,List.mem_cons,List.not_mem_nil,or_false,not_or] at n
 have l5:=hx.lies (b5,.cells #[.int .i64 0,.slice none 0 0,.slice none 0 0,.slice none 0 0] 29) qk
 have lf:=hx.lies (bf,.cells (madeCells #[.slice none 0 0] M) 26) qk
 have ll:=hx.lies (bl,.cells (madeCells #[.int .i64 0] M) 3) qk
 have lg:=hx.lies (gc,.cells cur 60) qk
 have lr:=hx.lies (w.heap.size+1,.cells #[.int .i64 0,.slice none 0 0,.slice none 0 0,.slice none 0 0] 29) qk
 dsimp only at l5 lf ll lg lr
 have r1:=heap_setCell_same _ _ 0 _ _ (.int .i64 wd) l5.1
 have r2:=heap_setCell_same _ _ 1 _ _ (.slice (some ⟨gc,0,none⟩) cs.length c) r1
 have r3:=heap_setCell_same _ _ 2 _ _ (.slice (some ⟨bl,0,none⟩) M M) r2
 have r4:=heap_setCell_same _ _ 3 _ _ (.slice (some ⟨bf,0,none⟩) M M) r3
 rw[<- h9] at r4
 simp only[asl] at r4
 have o4:∀ b,b≠b5->x9.heap[b]?=x.heap[b]?:=fun b q=>by
  rw[h9,heap_setCell_other _ _ _ _ q,heap_setCell_other _ _ _ _ q,heap_setCell_other _ _ _ _ q,heap_setCell_other _ _ _ _ q]
 have hB9:Below w.heap.size w x9:=by
  rw[h9]
  exact(((hx.below.setCell (p:=⟨b5,0,none⟩) l5.2 _).setCell (p:=⟨b5,1,none⟩) l5.2 _).setCell (p:=⟨b5,2,none⟩) l5.2 _).setCell (p:=⟨b5,3,none⟩) l5.2 _
 have hS0:ScS w x9 wd cs M gc c bl bf 0 (madeCells #[.int .i64 0] M) (madeCells #[.slice none 0 0] M) (fun _=>.slice none 0 0) :=
  ⟨hB9,hown x9 _ lg.2 ((o4 gc qg).trans lg.1),(o4 bl qg).trans ll.1,(o4 bf qg).trans lf.1,by simp[madeCells],by simp[madeCells],(fun j hj=>absurd hj qg),(fun j hj=>absurd hj qg),⟨⟨lg.2,ll.2,lf.2⟩,qg⟩,(fun j hj=>absurd hj qg),(fun j hj=>absurd hj qg),(fun j _ _ hj=>absurd hj qg)⟩
 have hgo:=zn1 SS.out w x9 M gc c bl bf b5 (w.heap.size+1) HMW.out hS0 r4 ((o4 _ qg).trans lr.1) ⟨⟨l5.2,lr.2⟩,qg⟩ (Post:=fun e w'=>∃ gc c bl bf arrL arrF xs,e=.returned (.tuple #[.agg #[.int .i64 wd,.slice (some ⟨gc,0,none⟩) cs.length c,.slice (some ⟨bl,0,none⟩) M M,.slice (some ⟨bf,0,none⟩) M M],.bool true])/\ScS w w' wd cs M gc c bl bf M arrL arrF xs) (fun w' arrL arrF xs hS=>⟨gc,c,bl,bf,arrL,arrF,xs,rfl,hS⟩)
 exact hgo _ _ _ _ _ _ _ _ _ _ _ _ _ _ _ _ _ _ _ _ _ _ _ _ _ _
end Sp
namespace Sp
variable{aLt:Nat->Func->Func}
open Go.RowKit
attribute [local go_sem ↓] Go.wp_at_zero Go.wp_at_succ
def RI(w:World)(a:Option Addr)(m:Nat)(f:Nat->Int):Prop:=m=0\/∃ g,a=some ⟨g,0,none⟩/\g<w.heap.size/\∀ j,j<m->w.cell? ⟨g,j,none⟩=some (.int .i64 (f j))/\w.frozen? ⟨g,j,none⟩=false
theorem RI.below{f:Nat->Int}(h:RI w a m f)(hb:Below w.heap.size w w'):RI w' a m f:=by
 rcases h with h|⟨g,e,hg,hc⟩
 ·exact Or.inl h
 ·exact Or.inr ⟨g,e,nll hg hb.size,fun j hj=>⟨zad hb (hc j hj).1,zal hb (hc j hj).1 (hc j hj).2⟩⟩
theorem RI.like{f f':Nat->Int}(h:RI w a m f)(e:∀ j,j<m->f' j=f j):RI w a m f':=by
 rcases h with h|⟨g,e1,hl,hc⟩
 ·exact Or.inl h
 ·exact Or.inr ⟨g,e1,hl,fun j hj=>by rw[e j hj];exact hc j hj⟩
theorem RI.at{f:Nat->Int}(h:RI w a m f)(hm:0<m):∃ g,a=some ⟨g,0,none⟩/\g<w.heap.size/\∀ j,j<m->w.cell? ⟨g,j,none⟩=some (.int .i64 (f j))/\w.frozen? ⟨g,j,none⟩=false:=by
 rcases h with h|h
 ·omega
 ·exact h
structure zbt(S:Nat->Prop)(w w':World):Prop where
 os:w'.os=w.os
 tape:w'.tape=w.tape
 output:w'.output=w.output
 size:w.heap.size<=w'.heap.size
 block:∀ k,k<w.heap.size->¬ S k->w'.heap[k]?=w.heap[k]?
theorem zbt.refl(S:Nat->Prop)(w:World):zbt S w w:=⟨rfl,rfl,rfl,Nat.le_refl _,fun _ _ _=>rfl⟩
theorem zbt.grown{w1 w2:World}(h:zbt S w w1)(hg:w1.grownBy w2 g)(hs:∀ b,g=some b->S b):zbt S w w2 :=
 ⟨hg.os.trans h.os,hg.tape.trans h.tape,hg.output.trans h.output,Nat.le_trans h.size hg.size,fun k hk hn=>(hg.block k (nll hk h.size) (fun e=>hn (hs k e.symm))).trans (h.block k hk hn)⟩
theorem zbt.cell(h:zbt S w w'){o:Nat}(hg:¬ S b)(hc:w.cell? ⟨b,o,none⟩=some v):w'.cell? ⟨b,o,none⟩=some v:=by
 rw[World.cell?_of_block (w:=w) (h.block b (World.block_lt_of_cell? w _ hc) hg)]
 exact hc
theorem zbt.below(h:zbt S w w')(hb:Below B w0 w)(hS:∀ e,S e->B<=e)(hz:B<=w.heap.size):Below B w0 w' :=
 ⟨h.os.trans hb.os,h.tape.trans hb.tape,h.output.trans hb.output,Nat.le_trans hb.size h.size,fun k hk=>(h.block k qg (fun q=>by have:=hS k q;omega)).trans (hb.block k hk)⟩
structure zoH(w:World)(lo hi b M:Nat)(ad:Nat->Option Addr)(n cp:Nat->Nat)(f:Nat->Nat->Int):Prop where
 out:lo<=b/\b<hi
 cell:∀ k,k<M->w.cell? ⟨b,k,none⟩=some (.slice (ad k) (n k) (cp k))
 row:∀ k,k<M->RI w (ad k) (n k * 1) (f k)
 lt:∀ k x,k<M->ad k=some x->(lo<=x.block/\x.block<hi)/\¬ x.block=b
 inj:∀ k k' x x',k<M->k'<M->ad k=some x->ad k'=some x'->x.block=x'.block->k=k'
 top:hi<=w.heap.size
def zmt(w:World)(lo hi:Nat)(a:Option Addr)(M:Nat)(ad:Nat->Option Addr)(n cp:Nat->Nat)(f:Nat->Nat->Int):Prop:=M=0\/∃ b,a=some ⟨b,0,none⟩/\zoH w lo hi b M ad n cp f
theorem zoH.below(h:zoH w lo hi b M ad n cp f)(hb:Below w.heap.size w w'):zoH w' lo hi b M ad n cp f :=
 ⟨h.out,fun k hk=>zad hb (h.cell k hk),fun k hk=>(h.row k hk).below hb,h.lt,h.inj,Nat.le_trans h.top hb.size⟩
theorem zmt.below(h:zmt w lo hi a M ad n cp f)(hb:Below w.heap.size w w'):zmt w' lo hi a M ad n cp f:=by
 rcases h with h|⟨b,e,h⟩
 ·exact .inl h
 ·exact .inr ⟨b,e,h.below hb⟩
def zgv(M:Nat)(ad:Nat->Option Addr)(e:Nat):Prop:=∃ k x,k<M/\ad k=some x/\e=x.block
end Sp
namespace Sp
open Go.RowKit
theorem ziv{xs:List Int}(h:zdN w B 3 v xs):zcu w B v xs:=by
 refine⟨by simp[za3],?_⟩
 rcases h with ⟨h1,h2⟩|⟨g,cap,h1,h2,h3,h4,h5,h6⟩
 ·exact .inl ⟨h1,by rw[h2];rfl⟩
 ·refine .inr ⟨g,cap,zgl xs cap,h1,h2,h6,h4,h5,by rw[zgi xs cap h4,Nat.mul_one],?_⟩
  rw[Nat.mul_one]
  have e:(zgl xs cap).toList=za3 xs++List.replicate (cap - xs.length) (.int .i64 0):=by simp[zgl,zeb,za3]
  rw[e,List.take_append_of_le_length (by simp[za3])]
  rw[List.take_of_length_le (by simp[za3])]
theorem znM{xs:List Int}(h:zcu w B v xs):∃ a c,v=.slice a xs.length c/\RI w a (xs.length * 1) (fun i=>xs.getD i 0)/\∀ x,a=some x->v.ownBlock=some x.block:=by
 obtain⟨h1,h2⟩:=h
 rcases h2 with ⟨q1,q2⟩|⟨g,cap,cur,q1,q2,q3,q4,q5,q6,q7⟩
 ·exact⟨none,0,by rw[q1,q2],.inl qg,fun x e=>by cases e⟩
 ·refine⟨_,cap,q1,.inr ⟨g,rfl,(gei q3).1,fun j hj=>⟨?_,frozen_of_row _ _ j _ _ q3⟩⟩,fun x e=>by rw[q1];cases e;rfl⟩
  have hj':j<xs.length:=qg
  have e:(cur.toList.take (xs.length * 1))[j]?=(za3 xs)[j]?:=by rw[q7]
  rw[List.getElem?_take_of_lt hj,Array.getElem?_toList] at e
  rw[cell_of_row _ _ j _ _ _ q3,e]
  simp[za3,hj']
theorem ScA.toS{gc bl bf k:Nat}(h:ScA w0 w wd cs M gc bl bf k arrL arrF xs):ScS w0 w wd cs M gc cs.length bl bf k arrL arrF xs:=by
 have hlt:=h.lt
 exact⟨h.below,h.grid,h.lights,h.feet,h.sizeL,h.sizeF,h.atL,h.atF,qg,fun j hj=>ziv (h.row j hj),fun j hj b hb=>by have:=h.apart j hj b hb;omega,h.once⟩
end Sp
namespace Sp
variable{aLt:Nat->Func->Func}
open Go.RowKit
def marks(k:Int)(n:Nat):List (Int × Int):=(List.range n).map fun (i:Nat)=>(k+2 * (i:Int),k+2 * (i:Int)+1)
theorem Own.range(h:Own w B v cs):∀ k,v.ownBlock=some k->B<=k/\k<w.heap.size:=World.ownsRow.lt h
end Sp
namespace Sp
open Go.RowKit
attribute [local go_sem ↓] Go.wp_at_zero Go.wp_at_succ
def ScM(w:World)(g l f:Option Addr)(cs:List (Int × Int))(ls:List Int)(fs:List (List Int)):Prop:=zaf w g cs/\zcL w l ls/\zgj w f fs
theorem ScM.below{g l f:Option Addr}(h:ScM w g l f cs ls fs)(hb:Below w.heap.size w w'):ScM w' g l f cs ls fs:=⟨h.1.below hb,h.2.1.below hb,h.2.2.below hb⟩
theorem zaw{v0 v1 v2 v3:Value}(h:w.heap[b]?=some (.cells #[v0,v1,v2,v3] t)):w.cell? ⟨b,0,none⟩=some v0/\w.cell? ⟨b,1,none⟩=some v1/\w.cell? ⟨b,2,none⟩=some v2/\w.cell? ⟨b,3,none⟩=some v3 :=
 ⟨(cell_of_row _ _ 0 _ _ _ h).trans rfl,(cell_of_row _ _ 1 _ _ _ h).trans rfl,(cell_of_row _ _ 2 _ _ _ h).trans rfl,(cell_of_row _ _ 3 _ _ _ h).trans rfl⟩
theorem thaw{xs:Array Value}(h:w.heap[b]?=some (.cells xs t))(i:Nat):w.frozen? ⟨b,i,none⟩=false:=frozen_of_row _ _ _ _ _ h
def zhP(cs:List (Int × Int))(ls:List Int)(fs:List (List Int)):Prop:=cs.length<=1048576/\ls.length<=1048576/\fs.length<=1048576/\∀ k,k<fs.length->(fs.getD k []).length<=1048576
theorem zbt.imp{S':Nat->Prop}(h:zbt S w w')(hi:∀ e,S e->S' e):zbt S' w w':=⟨h.os,h.tape,h.output,h.size,fun k hk hn=>h.block k hk (fun q=>hn (hi k q))⟩
theorem zbt.trans{w1 w2:World}(h:zbt S w w1)(h2:zbt S w1 w2):zbt S w w2:=⟨h2.os.trans h.os,h2.tape.trans h.tape,h2.output.trans h.output,Nat.le_trans h.size h2.size,fun k hk hn=>(h2.block k (nll hk h.size) hn).trans (h.block k hk hn)⟩
theorem zbt.of(h:Below w.heap.size w w'):zbt S w w':=⟨h.os,h.tape,h.output,h.size,fun k hk _=>h.block k hk⟩
def zdA(a:Option Addr)(e:Nat):Prop:=∃ x,a=some x/\e=x.block
structure zrA(sz:Nat)(ga la fa:Option Addr)(M:Nat)(ad:Nat->Option Addr):Prop where
 gl:∀ e,zdA ga e->¬ zdA la e
 gf:∀ e,zdA ga e->¬ zdA fa e
 gr:∀ e,zdA ga e->¬ zgv M ad e
 lf:∀ e,zdA la e->¬ zdA fa e
 lr:∀ e,zdA la e->¬ zgv M ad e
 lt:∀ e,zdA ga e\/zdA la e\/zgv M ad e->e<sz
end Sp
namespace Sp
open Go.RowKit
def zry:Value->Option Addr
 | .slice a _ _=>a
 | _=>none
def zsi(w:World)(wd:Int)(cs:List (Int × Int))(M:Nat)(l:Nat->Int)(n:Nat->Nat)(f:Nat->Nat->Int)(ok:Bool)(r:Ending)(w':World):Prop :=
 ∃ ga la fa gc lc fc ad cp,r=.returned (.tuple #[.agg #[.int .i64 wd,.slice ga cs.length gc,.slice la M lc,.slice fa M fc],.bool ok])/\Own w' w.heap.size (.slice ga cs.length gc) cs/\RI w' la (M * 1) l/\zmt w' w.heap.size w'.heap.size fa M ad n cp f/\zrA w'.heap.size ga la fa M ad/\(∀ e,zdA ga e\/zdA la e\/zdA fa e\/zgv M ad e->w.heap.size<=e)/\Below w.heap.size w w'
theorem zaN{e:Nat}(h:zdA (some ⟨b,0,none⟩) e):e=b:=by
 obtain⟨x,h1,h2⟩:=h
 cases h1
 exact h2
theorem zqt{l:Nat->Int}(hr:r=.returned (.tuple #[.agg #[.int .i64 0,.slice none 0 0,.slice none 0 0,.slice none 0 0],.bool false]))(hb:Below w.heap.size w w'):zsi w 0 [] 0 l n f false r w':=by
 have h0:∀ e,¬ zdA none e:=fun e ⟨x,h,_⟩=>by cases h
 have h1:∀ e,¬ zgv 0 (fun _=>none) e:=fun e ⟨k,x,h,_⟩=>by omega
 exact⟨none,none,none,0,0,0,fun _=>none,fun _=>0,hr,⟨rfl,.inl ⟨rfl,rfl⟩⟩,.inl rfl,.inl rfl,⟨fun e h=>absurd h (h0 e),fun e h=>absurd h (h0 e),fun e h=>absurd h (h0 e),fun e h=>absurd h (h0 e),fun e h=>absurd h (h0 e),fun e h=>by rcases h with h|h|h;exact absurd h (h0 e);exact absurd h (h0 e);exact absurd h (h1 e)⟩,fun e h=>by rcases h with h|h|h|h;exact absurd h (h0 e);exact absurd h (h0 e);exact absurd h (h0 e);exact absurd h (h1 e),hb⟩
theorem zmA{gc c bl bf:Nat}(h:ScS w w' wd cs M gc c bl bf M arrL arrF xs)(hr:r=.returned (.tuple #[.agg #[.int .i64 wd,.slice (some ⟨gc,0,none⟩) cs.length c,.slice (some ⟨bl,0,none⟩) M M,.slice (some ⟨bf,0,none⟩) M M],.bool true])) :
  zsi w wd cs M (fun j=>za0 wd cs (j:Int)) (fun j=>(zar wd cs (j:Int)).length) (fun j i=>(zar wd cs (j:Int)).getD i 0) true r w':=by
 have hx:∀ j,j<M->xs j=.slice (zry (xs j)) (zar wd cs (j:Int)).length (zbI (xs j))/\RI w' (zry (xs j)) ((zar wd cs (j:Int)).length * 1) (fun i=>(zar wd cs (j:Int)).getD i 0)/\∀ x,zry (xs j)=some x->(xs j).ownBlock=some x.block:=fun j hj=>by
  obtain⟨a,c,h1,h2,h3⟩:=znM (h.row j hj)
  rw[h1] at h3 ⊢
  exact⟨rfl,h2,h3⟩
 have hblk:∀ j x,j<M->zry (xs j)=some x->(w.heap.size<=x.block/\x.block<w'.heap.size)/\(x.block≠gc/\x.block≠bl/\x.block≠bf):=fun j x hj q=>⟨World.ownsRow.lt (h.row j hj) x.block ((hx j hj).2.2 x q),h.apart j hj x.block ((hx j hj).2.2 x q)⟩
 have hrow:∀ e,zgv M (fun j=>zry (xs j)) e->(w.heap.size<=e/\e<w'.heap.size)/\(e≠gc/\e≠bl/\e≠bf):=fun e ⟨k,x,q1,q2,q3⟩=>by rw[q3];exact hblk k x q1 q2
 have hlt:=h.lt
 have hgl:=(World.ownsRow.lt h.grid gc rfl).2
 have hbl:=(gei h.lights).1
 have hbf:=(gei h.feet).1
 refine⟨some ⟨gc,0,none⟩,some ⟨bl,0,none⟩,some ⟨bf,0,none⟩,c,M,M,fun j=>zry (xs j),fun j=>zbI (xs j),hr,h.grid,.inr ⟨bl,rfl,hbl,fun j hj=>⟨?_,frozen_of_row _ _ j _ _ h.lights⟩⟩,.inr ⟨bf,rfl,⟨hlt.1.2.2,hbf⟩,fun k hk=>?_,fun k hk=>(hx k hk).2.1,fun k x hk q=>⟨(hblk k x hk q).1,(hblk k x hk q).2.2.2⟩,fun k k' x x' hk hk' q q' e=>?_,Nat.le_refl _⟩,⟨?_,?_,?_,?_,?_,?_⟩,?_,h.below⟩
 ·rw[cell_of_row _ _ j _ _ _ h.lights,h.atL j qg]
 ·rw[cell_of_row _ _ k _ _ _ h.feet,h.atF k hk]
  exact congrArg some (hx k hk).1
 ·have q1:=(hx k hk).2.2 x q
  have q2:=(hx k' hk').2.2 x' q'
  rw[<- e] at q2
  exact h.inj k k' x.block hk hk' q1 q2
 ·intro e q q'
  have:=zaN q;have:=zaN q';omega
 ·intro e q q'
  have:=zaN q;have:=zaN q';omega
 ·intro e q q'
  have:=zaN q;have:=(hrow e q').2.1;omega
 ·intro e q q'
  have:=zaN q;have:=zaN q';omega
 ·intro e q q'
  have:=zaN q;have:=(hrow e q').2.2.1;omega
 ·rintro e (q|q|q)
  ·have:=zaN q;omega
  ·have:=zaN q;omega
  ·exact(hrow e q).1.2
 ·rintro e (q|q|q|q)
  ·have:=zaN q;omega
  ·have:=zaN q;omega
  ·have:=zaN q;omega
  ·exact(hrow e q).1.1
end Sp
namespace Sp
open Go.RowKit
attribute [local go_sem ↓] Go.wp_at_zero Go.wp_at_succ
theorem zbV(o:Obj)(w:World):(w.alloc o).heap[w.heap.size]?=some o/\Below w.heap.size w (w.alloc o):=by
 refine⟨?_,bel⟩
 show (w.heap.push o)[w.heap.size]?=some o
 simp
theorem zkE{n:Nat}{f:Nat->Int}(h:RI w a (n * 1) f):zcL w a ((List.range n).map f):=by
 rcases Nat.eq_zero_or_pos n with rfl|hp
 ·exact .inl rfl
 ·obtain⟨g,rfl,hl,hc⟩:=h.at qg
  refine .inr ⟨g,0,rfl,hl,fun i hi=>?_⟩
  have hi':i<n:=by simpa using hi
  rw[Nat.zero_add,(hc i qg).1]
  simp[hi']
theorem zlH(h:zmt w lo hi a M ad n cp f):zgj w a ((List.range M).map fun k=>(List.range (n k)).map (f k)):=by
 rcases h with rfl|⟨b,rfl,h⟩
 ·exact .inl rfl
 ·refine .inr ⟨b,0,rfl,nll h.out.2 h.top,fun k hk=>?_⟩
  have hk':k<M:=by simpa using hk
  have e:((List.range M).map fun k=>(List.range (n k)).map (f k)).getD k []=(List.range (n k)).map (f k):=by simp[hk']
  rw[e]
  refine⟨ad k,cp k,?_,zkE (h.row k hk')⟩
  rw[Nat.zero_add,h.cell k hk']
  simp
def zsh(w:World)(wd:Int)(N M:Nat)(L:List Int)(F:List (List Int))(ok:Bool)(r:Ending)(w':World):Prop :=
 ∃ ga la fa gc lc fc,r=.returned (.tuple #[.agg #[.int .i64 wd,.slice ga N gc,.slice la M lc,.slice fa M fc],.bool ok])/\zcL w' la L/\zgj w' fa F/\Below w.heap.size w w'
theorem zg2{l:Nat->Int}(h:zsi w wd cs M l n f ok r w'):zsh w wd cs.length M ((List.range M).map l) ((List.range M).map fun k=>(List.range (n k)).map (f k)) ok r w':=by
 obtain⟨ga,la,fa,gc,lc,fc,ad,cp,h1,_,h3,h4,_,_,h7⟩:=h
 exact⟨ga,la,fa,gc,lc,fc,h1,zkE h3,zlH h4,h7⟩
theorem zcU(wd:Int)(g l f:Option Addr)(gc lc fc:Nat)(cs:List (Int × Int))(ls:List Int)(fs:List (List Int))(w:World)(hg:zaf w g cs)(hl:zcL w l ls)(hf:zgj w f fs)(hS:zhP cs ls fs){N':Nat}(hL:L.length=M)(hF:F.length=M)(hM:M<=20)(hx:∀ k,k<F.length->(F.getD k []).length<=1048576)(hC:∀(a:Option Addr) (cap:Nat) (w:World),zaf w a cs->Calls SqP.prog 22 #[.agg #[.int .i64 wd,.slice a cs.length cap]] w (zsh w wd' N' M L F ok)) :
  Calls SqP.prog 14 #[.agg #[.int .i64 wd,.slice g cs.length gc,.slice l ls.length lc,.slice f fs.length fc]] w fun e w'=>e=.returned (.bool (ok && decide (ls=L) && decide (fs=F)))/\Below w.heap.size w w':=by
 obtain⟨w2,hw2⟩:∃ w2,w2=w.alloc (.cells #[.int .i64 wd,.slice g cs.length gc,.slice l ls.length lc,.slice f fs.length fc] 29):=⟨_,rfl⟩
 obtain⟨x1,hb2⟩:=zbV (.cells #[.int .i64 wd,.slice g cs.length gc,.slice l ls.length lc,.slice f fs.length fc] 29) w
 rw[<- hw2] at x1 hb2
 have H2:Hid (Below w.heap.size w w2):=hb2
 have X2:Hid (w2.heap[w.heap.size]?=some (.cells #[.int .i64 wd,.slice g cs.length gc,.slice l ls.length lc,.slice f fs.length fc] 29)):=x1
 have hN1:=hC g gc w2 (hg.below hb2)
 have HI:Hid ((zcL w l ls/\zgj w f fs)/\zhP cs ls fs):=⟨⟨hl,hf⟩,hS⟩
 obtain⟨N,hN⟩:∃ N,cs.length=N:=⟨_,rfl⟩
 obtain⟨P,hP⟩:∃ P,ls.length=P:=⟨_,rfl⟩
 obtain⟨R,hR⟩:∃ R,fs.length=R:=⟨_,rfl⟩
 have HN:Hid ((ls.length=P/\fs.length=R)/\L.length=M/\F.length=M):=⟨⟨hP,hR⟩,hL,hF⟩
 have HX:Hid (∀ k,k<F.length->(F.getD k []).length<=1048576):=hx
 rw[hN] at hN1
 rw[hN,hP,hR] at X2 hw2 ⊢
 clear hC hg hl hf hS x1 hb2 hN hP hR hL hF hx
 go_enter (zfx func14),ntmps14
 go_upto_region 1 with fail
 rw[<- hw2]
 clear hw2
 obtain⟨c0,c1,c2,c3⟩:=zaw X2.out
 go_wp2_with fail
 refine hN1.mono ?_
 rintro e w3 ⟨ga',la',fa',gc',lc',fc',rfl,hR1,hR2,hb3⟩
 have H3:Hid (Below w.heap.size w w3):=zai H2.out H2.out.size hb3
 have hb4:Below w3.heap.size w3 (w3.alloc (.cells #[.int .i64 wd',.slice ga' N' gc',.slice la' M lc',.slice fa' M fc'] 29)):=bel
 have X4:Hid ((w3.alloc (.cells #[.int .i64 wd',.slice ga' N' gc',.slice la' M lc',.slice fa' M fc'] 29)).heap[w.heap.size]?=some (.cells #[.int .i64 wd,.slice g N gc,.slice l P lc,.slice f R fc] 29)/\(w3.alloc (.cells #[.int .i64 wd',.slice ga' N' gc',.slice la' M lc',.slice fa' M fc'] 29)).heap[w3.heap.size]?=some (.cells #[.int .i64 wd',.slice ga' N' gc',.slice la' M lc',.slice fa' M fc'] 29)):=⟨(hb4.block _ (gei ((hb3.block _ (gei X2.out).1).trans X2.out)).1).trans ((hb3.block _ (gei X2.out).1).trans X2.out),(zbV _ w3).1⟩
 have H4:Hid (Below w.heap.size w (w3.alloc (.cells #[.int .i64 wd',.slice ga' N' gc',.slice la' M lc',.slice fa' M fc'] 29))):=zai H3.out H3.out.size hb4
 have HR:Hid (zcL (w3.alloc (.cells #[.int .i64 wd',.slice ga' N' gc',.slice la' M lc',.slice fa' M fc'] 29)) la' L/\zgj (w3.alloc (.cells #[.int .i64 wd',.slice ga' N' gc',.slice la' M lc',.slice fa' M fc'] 29)) fa' F):=⟨hR1.below hb4,hR2.below hb4⟩
 clear c0 c1 c2 c3 hR1 hR2 hb3 hb4 hN1 X2 H2 H3
 go_upto_region 2 with fail
 obtain⟨w4,hw4⟩:∃ w4,w4=w3.alloc (.cells #[.int .i64 wd',.slice ga' N' gc',.slice la' M lc',.slice fa' M fc'] 29):=⟨_,rfl⟩
 rw[<- hw4] at X4 H4 HR ⊢
 clear hw4
 obtain⟨c0,c1,c2,c3⟩:=zaw X4.out.1
 obtain⟨d0,d1,d2,d3⟩:=zaw X4.out.2
 have hE:=zkS l la' lc lc' ls L w4 (HI.out.1.1.below H4.out) HR.out.1 (by have:=HI.out.2.2.1;omega)
 rw[HN.out.1.1,HN.out.2.1] at hE
 have hF:∀ w5,Below w4.heap.size w4 w5->Calls SqP.prog 24 #[.slice f R fc,.slice fa' M fc',.func (.func 23) #[] #[]] w5 fun e w'=>e=.returned (.bool (decide (fs=F)))/\Below w5.heap.size w5 w':=fun w5 hb=>by
  have:=zn0 f fa' fc fc' fs F w5 ((HI.out.1.2.below H4.out).below hb) (HR.out.2.below hb) (by have:=HI.out.2.2.2.1;omega) (fun k hk=>by have:=HI.out.2.2.2.2 k hk;omega)
  rw[HN.out.1.2,HN.out.2.2] at this
  exact this
 have HF:Hid (∀ w5,Below w4.heap.size w4 w5->Calls SqP.prog 24 #[.slice f R fc,.slice fa' M fc',.func (.func 23) #[] #[]] w5 fun e w'=>e=.returned (.bool (decide (fs=F)))/\Below w5.heap.size w5 w'):=hF
 have HE:Hid (Calls SqP.prog 23 #[.slice l P lc,.slice la' M lc'] w4 fun e w'=>e=.returned (.bool (decide (ls=L)))/\Below w4.heap.size w4 w'):=hE
 clear hE hF HI HN HX HR X4
 rcases ok with _|_
 ·clear HE HF c0 c1 c2 c3 d0 d1 d2 d3
  go_wp2_with fail
  go_ret
  exact⟨qk,H4.out⟩
 ·obtain⟨b1,eb1⟩:∃ b1,decide (ls=L)=b1:=⟨_,rfl⟩
  obtain⟨b2,eb2⟩:∃ b2,decide (fs=F)=b2:=⟨_,rfl⟩
  rw[eb1] at HE
  rw[eb2] at HF
  have HB:Hid (decide (ls=L)=b1/\decide (fs=F)=b2):=⟨eb1,eb2⟩
  clear eb1 eb2
  rcases b1 with _|_
  ·clear HF
   go_wp2_with fail
   refine HE.out.mono ?_
   rintro e w5 ⟨rfl,hb⟩
   have H5:Hid (Below w.heap.size w w5):=zai H4.out H4.out.size hb
   clear c0 c1 c2 c3 d0 d1 d2 d3 hb
   go_wp2_with fail
   go_ret
   exact⟨by have h:=HB.out.1;simp[h],H5.out⟩
  ·go_wp2_with fail
   refine HE.out.mono ?_
   rintro e w5 ⟨rfl,hb⟩
   have H5:Hid (Below w.heap.size w w5):=zai H4.out H4.out.size hb
   have hF5:=HF.out w5 hb
   replace c3:=zad hb c3;replace d3:=zad hb d3
   clear c0 c1 c2 d0 d1 d2 hb HE HF
   go_wp2_with fail
   refine hF5.mono ?_
   rintro e w6 ⟨rfl,hb⟩
   have H6:=zai H5.out H5.out.size hb
   clear c3 d3 hb hF5
   go_wp2_with fail
   go_ret
   exact⟨by have h:=HB.out;simp[h.1,h.2],H6⟩
theorem zc6(wd:Int)(g l f:Option Addr)(gc lc fc:Nat)(cs:List (Int × Int))(ls:List Int)(fs:List (List Int))(w:World)(hg:zaf w g cs)(hl:zcL w l ls)(hf:zgj w f fs)(hS:zhP cs ls fs){N':Nat}(hL:L.length=M)(hF:F.length=M)(hM:M<=20)(hx:∀ k,k<F.length->(F.getD k []).length<=1048576)(hC:∀(a:Option Addr) (cap:Nat) (w:World),zaf w a cs->Calls SqP.prog 17 #[.agg #[.int .i64 wd,.slice a cs.length cap]] w (zsh w wd' N' M L F ok)) :
  Calls SqP.prog 8 #[.agg #[.int .i64 wd,.slice g cs.length gc,.slice l ls.length lc,.slice f fs.length fc]] w fun e w'=>e=.returned (.bool (ok && decide (ls=L) && decide (fs=F)))/\Below w.heap.size w w':=by
 obtain⟨w2,hw2⟩:∃ w2,w2=w.alloc (.cells #[.int .i64 wd,.slice g cs.length gc,.slice l ls.length lc,.slice f fs.length fc] 29):=⟨_,rfl⟩
 obtain⟨x1,hb2⟩:=zbV (.cells #[.int .i64 wd,.slice g cs.length gc,.slice l ls.length lc,.slice f fs.length fc] 29) w
 rw[<- hw2] at x1 hb2
 have H2:Hid (Below w.heap.size w w2):=hb2
 have X2:Hid (w2.heap[w.heap.size]?=some (.cells #[.int .i64 wd,.slice g cs.length gc,.slice l ls.length lc,.slice f fs.length fc] 29)):=x1
 have hN1:=hC g gc w2 (hg.below hb2)
 have HI:Hid ((zcL w l ls/\zgj w f fs)/\zhP cs ls fs):=⟨⟨hl,hf⟩,hS⟩
 obtain⟨N,hN⟩:∃ N,cs.length=N:=⟨_,rfl⟩
 obtain⟨P,hP⟩:∃ P,ls.length=P:=⟨_,rfl⟩
 obtain⟨R,hR⟩:∃ R,fs.length=R:=⟨_,rfl⟩
 have HN:Hid ((ls.length=P/\fs.length=R)/\L.length=M/\F.length=M):=⟨⟨hP,hR⟩,hL,hF⟩
 have HX:Hid (∀ k,k<F.length->(F.getD k []).length<=1048576):=hx
 rw[hN] at hN1
 rw[hN,hP,hR] at X2 hw2 ⊢
 clear hC hg hl hf hS x1 hb2 hN hP hR hL hF hx
 go_enter (zfx func8),ntmps8
 go_upto_region 1 with fail
 rw[<- hw2]
 clear hw2
 obtain⟨c0,c1,c2,c3⟩:=zaw X2.out
 go_wp2_with fail
 refine hN1.mono ?_
 rintro e w3 ⟨ga',la',fa',gc',lc',fc',rfl,hR1,hR2,hb3⟩
 have H3:Hid (Below w.heap.size w w3):=zai H2.out H2.out.size hb3
 have hb4:Below w3.heap.size w3 (w3.alloc (.cells #[.int .i64 wd',.slice ga' N' gc',.slice la' M lc',.slice fa' M fc'] 29)):=bel
 have X4:Hid ((w3.alloc (.cells #[.int .i64 wd',.slice ga' N' gc',.slice la' M lc',.slice fa' M fc'] 29)).heap[w.heap.size]?=some (.cells #[.int .i64 wd,.slice g N gc,.slice l P lc,.slice f R fc] 29)/\(w3.alloc (.cells #[.int .i64 wd',.slice ga' N' gc',.slice la' M lc',.slice fa' M fc'] 29)).heap[w3.heap.size]?=some (.cells #[.int .i64 wd',.slice ga' N' gc',.slice la' M lc',.slice fa' M fc'] 29)):=⟨(hb4.block _ (gei ((hb3.block _ (gei X2.out).1).trans X2.out)).1).trans ((hb3.block _ (gei X2.out).1).trans X2.out),(zbV _ w3).1⟩
 have H4:Hid (Below w.heap.size w (w3.alloc (.cells #[.int .i64 wd',.slice ga' N' gc',.slice la' M lc',.slice fa' M fc'] 29))):=zai H3.out H3.out.size hb4
 have HR:Hid (zcL (w3.alloc (.cells #[.int .i64 wd',.slice ga' N' gc',.slice la' M lc',.slice fa' M fc'] 29)) la' L/\zgj (w3.alloc (.cells #[.int .i64 wd',.slice ga' N' gc',.slice la' M lc',.slice fa' M fc'] 29)) fa' F):=⟨hR1.below hb4,hR2.below hb4⟩
 clear c0 c1 c2 c3 hR1 hR2 hb3 hb4 hN1 X2 H2 H3
 go_upto_region 2 with fail
 obtain⟨w4,hw4⟩:∃ w4,w4=w3.alloc (.cells #[.int .i64 wd',.slice ga' N' gc',.slice la' M lc',.slice fa' M fc'] 29):=⟨_,rfl⟩
 rw[<- hw4] at X4 H4 HR ⊢
 clear hw4
 obtain⟨c0,c1,c2,c3⟩:=zaw X4.out.1
 obtain⟨d0,d1,d2,d3⟩:=zaw X4.out.2
 have hE:=zfD la' l lc' lc L ls w4 HR.out.1 (HI.out.1.1.below H4.out) (by have:=HN.out.2.1;omega)
 rw[HN.out.1.1,HN.out.2.1] at hE
 have HE:Hid (Calls SqP.prog 18 #[.slice la' M lc',.slice l P lc] w4 fun e w'=>e=.returned (.bool (decide (L=ls)))/\Below w4.heap.size w4 w'):=hE
 clear hE
 rcases ok with _|_
 ·clear HE HR HI HN HX X4 c0 c1 c2 c3 d0 d1 d2 d3
  go_wp2_with fail
  go_ret
  exact⟨qk,H4.out⟩
 by_cases q1:¬ ls=L
 ·have hd:decide (L=ls)=false:=decide_eq_false (fun e=>q1 e.symm)
  rw[hd] at HE
  have HQ:Hid (¬ ls=L):=q1
  clear hd q1 HR HI HN HX X4
  go_wp2_with fail
  refine HE.out.mono ?_
  rintro e w5 ⟨rfl,hb⟩
  have H5:Hid (Below w.heap.size w w5):=zai H4.out H4.out.size hb
  clear c0 c1 c2 c3 d0 d1 d2 d3 hb
  go_wp2_with fail
  go_ret
  exact⟨by have h:=HQ.out;simp[h],H5.out⟩
 replace q1:ls=L:=Decidable.not_not.1 q1
 have hd:decide (L=ls)=true:=decide_eq_true q1.symm
 rw[hd] at HE
 have HQ:Hid (ls=L):=q1
 clear hd q1
 by_cases q2:¬ R=M
 ·have hne:((M:Int) != (R:Int))=true:=ql
  have HQ2:Hid (¬ fs=F):=fun e=>q2 (by rw[<- HN.out.1.2,<- HN.out.2.2,e])
  clear q2 HR HI HN HX X4
  go_wp2_with fail
  refine HE.out.mono ?_
  rintro e w5 ⟨rfl,hb⟩
  have H5:Hid (Below w.heap.size w w5):=zai H4.out H4.out.size hb
  replace c3:=zad hb c3;replace d3:=zad hb d3
  clear c0 c1 c2 d0 d1 d2 hb HE
  go_wp2_with fail
  go_ret
  exact⟨by have h:=HQ2.out;simp[h],H5.out⟩
 replace q2:R=M:=Decidable.not_not.1 q2
 subst q2
 have hne:((R:Int) != (R:Int))=false:=qk
 go_wp2_with fail
 refine HE.out.mono ?_
 rintro e w5 ⟨rfl,hb⟩
 have H5:Hid (Below w.heap.size w w5):=zai H4.out H4.out.size hb
 have R5:Hid (zgj w5 f fs/\zgj w5 fa' F):=⟨(HI.out.1.2.below H4.out).below hb,HR.out.2.below hb⟩
 replace c3:=zad hb c3;replace d3:=zad hb d3
 clear c0 c1 c2 d0 d1 d2 hb HE HR X4
 go_wp2_with fail
 go_loopw [5] (fun ii wr=>∃ i:Nat,i<=R/\ii=.int .i64 i/\(∀ j,j<i->F.getD j []=fs.getD j [])/\Below w5.heap.size w5 wr) (fun ii _=>R - (intOf ii).toNat)
 case atStart=>exact⟨0,Nat.zero_le _,rfl,fun j h=>qg,Below.refl _ _⟩
 case round =>
  rename World=>wo
  obtain⟨i,hi,rfl,hsame,hb⟩:=hrel
  have hzo:=hb.size
  have HS:Hid (∀ j,j<i->F.getD j []=fs.getD j []):=hsame
  have c3':=zad hb c3
  have d3':=zad hb d3
  clear c3 d3 hsame
  by_cases hlt:i<R
  ·obtain⟨b1,o1,a3,p3,rfl,y0,hX⟩:=(R5.out.1.below hb).at (k:=i) qc
   obtain⟨b2,o2,a4,p4,rfl,x0,hY⟩:=(R5.out.2.below hb).at (k:=i) qc
   have hxl:=HX.out i qc
   have hltI:(i:Int)<(R:Int):=qg
   have wk:IntKind.i64.wrap ((i:Int)+1)=(i:Int)+1:=IntWalk.i64_in _ qg
   obtain⟨x,ex⟩:∃ x,F.getD i []=x:=⟨_,rfl⟩
   obtain⟨y,ey⟩:∃ y,fs.getD i []=y:=⟨_,rfl⟩
   have HE:Hid (F.getD i []=x/\fs.getD i []=y):=⟨ex,ey⟩
   rw[ex] at x0 hY hxl
   rw[ey] at y0 hX
   have hC:=fun w hb=>zfD a4 a3 p4 p3 x y w (hY.below hb) (hX.below hb) qg
   obtain⟨m1,em1⟩:∃ m,x.length=m:=⟨_,rfl⟩
   obtain⟨m2,em2⟩:∃ m,y.length=m:=⟨_,rfl⟩
   rw[em1,em2] at hC
   rw[em1] at x0
   rw[em2] at y0
   clear ex ey em1 em2 hX hY hxl
   by_cases hxy:x=y
   ·have HXY:Hid (x=y):=hxy
    rw[decide_eq_true hxy] at hC
    clear hxy
    go_wp2
    go_region_held3 (fun w'=>(w'.cell? ⟨w3.heap.size,3,none⟩=some (.slice (some ⟨b2,o2,none⟩) R fc')/\w'.cell? ⟨w.heap.size,3,none⟩=some (.slice (some ⟨b1,o1,none⟩) R fc))/\w'.cell? ⟨b2,o2+i,none⟩=some (.slice a4 m1 p4)/\w'.cell? ⟨b1,o1+i,none⟩=some (.slice a3 m2 p3))
     (first
      | exact⟨⟨zad hb7 d3',zad hb7 c3'⟩,zad hb7 x0,zad hb7 y0⟩
      | exact⟨⟨d3',c3'⟩,x0,y0⟩
      | go_keep)
     (first
      | (go_at_call 18;refine(hC _ (by first|exact Below.refl _ _|exact(Below.refl _ _).drew)).mono ?_;rintro e w7 ⟨rfl,hb7'⟩;have hb7:Below wo.heap.size wo w7:=(by first|exact hb7'|exact zdU hb7'))
      | fail)
    all_goals
     have hb8:=zai hb hzo hb7
     go_wp2_with fail
     go_roundw
     case rel =>
      refine⟨i+1,qg,by go_num,fun j hj=>?_,by first|exact hb8|exact hb8.drew⟩
      rcases Nat.lt_succ_iff_lt_or_eq.1 hj with q|rfl
      ·exact HS.out j q
      ·rw[HE.out.1,HE.out.2];exact HXY.out
     case measure=>exact qe
   ·have HQ2:Hid (¬ fs=F):=fun e=>hxy (by rw[<- HE.out.1,<- HE.out.2,e])
    rw[decide_eq_false hxy] at hC
    clear hxy
    go_wp2
    go_region_held3 (fun w'=>(w'.cell? ⟨w3.heap.size,3,none⟩=some (.slice (some ⟨b2,o2,none⟩) R fc')/\w'.cell? ⟨w.heap.size,3,none⟩=some (.slice (some ⟨b1,o1,none⟩) R fc))/\w'.cell? ⟨b2,o2+i,none⟩=some (.slice a4 m1 p4)/\w'.cell? ⟨b1,o1+i,none⟩=some (.slice a3 m2 p3))
     (first
      | exact⟨⟨zad hb7 d3',zad hb7 c3'⟩,zad hb7 x0,zad hb7 y0⟩
      | exact⟨⟨d3',c3'⟩,x0,y0⟩
      | go_keep)
     (first
      | (go_at_call 18;refine(hC _ (by first|exact Below.refl _ _|exact(Below.refl _ _).drew)).mono ?_;rintro e w7 ⟨rfl,hb7'⟩;have hb7:Below wo.heap.size wo w7:=(by first|exact hb7'|exact zdU hb7'))
      | fail)
    all_goals
     have hb8:=zai H5.out H5.out.size (zai hb hzo hb7)
     go_wp2_with fail
     go_ret
     exact⟨by have h:=HQ2.out;simp[h],by first|exact hb8|exact hb8.drew⟩
  ·have hnl:¬ (i:Int)<(R:Int):=qg
   have HQ2:Hid (fs=F):=zkl (HN.out.1.2.trans HN.out.2.2.symm) fun j hj=>(HS.out j qc).symm
   go_wp2_with fail
   go_ret
   exact⟨by have h:=HQ2.out;have h2:=HQ.out;simp[h,h2],zai H5.out H5.out.size hb⟩
