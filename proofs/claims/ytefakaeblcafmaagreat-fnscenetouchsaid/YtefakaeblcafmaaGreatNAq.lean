/- Part. -/
import Derived.Deep.RegionLaw
import Derived.Test.YtefakaeblcafmaaGreatNAp
set_option maxHeartbeats 4000000
set_option maxRecDepth 20000
set_option linter.unusedVariables false
namespace Go.Proofs.YtefakaeblcafmaaGreat
variable{a:Act}{K:Act->World->Prop}{arrF arrL:Array Value}{wd:Int}{cs:List (Int × Int)}{xs:List Int}{B n:Nat}{e:TypeId}{v:Value}{w':World}
open Tryz
section
open Go
noncomputable abbrev SqP.prog:Program:=SqG.prog Sq.altP
abbrev SqP.underlying3:=@SqG.underlying3 Sq.altP
abbrev SqP.underlying23:=@SqG.underlying23 Sq.altP
abbrev SqP.underlying26:=@SqG.underlying26 Sq.altP
abbrev SqP.underlying27:=@SqG.underlying27 Sq.altP
abbrev SqP.underlying42:=@SqG.underlying42 Sq.altP
theorem SqP.func22:SqP.prog.funcs[22]?=some (zlM Tryz.f22):=zkg rfl Tryz.func22
theorem SqP.ntmps22:(zlM Tryz.f22).ntmps=22:=rfl
theorem SqP.body22:(zlM Tryz.f22).body=some zqV:=rfl
theorem SqP.results22:(zlM Tryz.f22).results=Tryz.f22.results:=rfl
@[simp] theorem SqP.call22(a : Array Value)(w : World) : (callFunc 22 a).run SqP.prog w = .ok (.enter 22 a) w := zi9 rfl Tryz.func22 rfl rfl a w
end
namespace Sp
open Go.RowKit
attribute [local go_sem ↓] Go.wp_at_zero Go.wp_at_succ
theorem zqW{Q:Exit->Act->World->Prop}{rest:Code}(wd:Int)(a:Option Addr)(cap:Nat)(cs:List (Int × Int))(w:World)(h:zaf w a cs)(hm:cs.length<4611686018427387904)(hK:∀(w':World) (u1 u2 u3 u4 u5 u6 u7 u8 u9 u10 u11 u12 u13 u14 u15 u16 u17 u18 u19 u20 u21:Value),Below w.heap.size w w'->Code.wp SqP.prog rest Q ⟨#[.agg #[.int .i64 wd,.slice a cs.length cap],u1,u2,u3,u4,u5,u6,u7,u8,u9,u10,u11,u12,u13,u14,u15,u16,u17,u18,u19,u20,u21],[]⟩ w') :
  Code.wp SqP.prog (zi7 rest) Q ⟨#[.agg #[.int .i64 wd,.slice a cs.length cap],undef,undef,undef,undef,undef,undef,undef,undef,undef,undef,undef,undef,undef,undef,undef,undef,undef,undef,undef,undef,undef],[]⟩ w:=by
 unfold zi7 ckA ckS ckL
 simp only[opr]
 have b1:decide ((cs.length:Int)<4611686018427387904)=true:=decide_eq_true qg
 have wz:IntKind.i64.wrap (wd * 0)=0:=by rw[Int.mul_zero];exact IntWalk.i64_in _ qg
 have hb0:Below w.heap.size w (w.alloc (.cells #[.int .i64 wd,.slice a cs.length cap] 25)):=bel
 have g0:(w.alloc (.cells #[.int .i64 wd,.slice a cs.length cap] 25)).cell? ⟨w.heap.size,0,none⟩=some (.int .i64 wd):=qj
 have g1:(w.alloc (.cells #[.int .i64 wd,.slice a cs.length cap] 25)).cell? ⟨w.heap.size,1,none⟩=some (.slice a cs.length cap):=qj
 have f0:(w.alloc (.cells #[.int .i64 wd,.slice a cs.length cap] 25)).frozen? ⟨w.heap.size,0,none⟩=false:=qj
 have f1:(w.alloc (.cells #[.int .i64 wd,.slice a cs.length cap] 25)).frozen? ⟨w.heap.size,1,none⟩=false:=qj
 go_wp2_with fail
 obtain⟨w1,hw1⟩:∃ w1,w1=w.alloc (.cells #[.int .i64 wd,.slice a cs.length cap] 25):=⟨_,rfl⟩
 rw[<- hw1] at hb0 g0 g1 f0 f1 ⊢
 clear hw1 wz
 have hC:=h.below hb0
 go_loopw [9,10,11,12,13,14,15,16,17,18] (fun ii _ _ _ _ _ _ _ _ _ wr=>∃ i:Nat,i<=cs.length/\ii=.int .i64 i/\wr=w1) (fun ii _ _ _ _ _ _ _ _ _ _=>cs.length - (intOf ii).toNat)
 case atStart=>exact⟨0,Nat.zero_le _,rfl,rfl⟩
 case round =>
  rename World=>wo
  obtain⟨i,hi,rfl,ew⟩:=hrel
  subst ew
  by_cases hlt:i<cs.length
  ·rcases hC with q|⟨b,off,rfl,hbl,hc⟩
   ·rw[q] at hlt;simp at hlt
   obtain⟨z0,z1⟩:=hc i hlt
   obtain⟨t,et⟩:∃ t,cs.getD i (0,0)=t:=⟨_,rfl⟩
   rw[et] at z0 z1
   obtain⟨t0,t1⟩:=t
   simp only at z0 z1
   have bl:decide ((i:Int)<(cs.length:Int))=true:=decide_eq_true qg
   have wa:IntKind.i64.wrap (t0 * 0)=0:=by rw[Int.mul_zero];exact IntWalk.i64_in _ qg
   have wb:IntKind.i64.wrap (t1 * 0)=0:=by rw[Int.mul_zero];exact IntWalk.i64_in _ qg
   have wi:IntKind.i64.wrap ((i:Int)+1)=(i:Int)+1:=IntWalk.i64_in _ qg
   clear hc et
   go_wp2_with fail
   go_roundw
   case rel=>exact⟨i+1,qg,by go_num,by first|rfl|trivial⟩
   case measure=>exact qe
  ·have bl:decide ((i:Int)<(cs.length:Int))=false:=decide_eq_false qg
   have hb2:=(hb0.setCell (p:=⟨w.heap.size,0,none⟩) (Nat.le_refl _) (.int .i64 wd)).setCell (p:=⟨w.heap.size,1,none⟩) (Nat.le_refl _) (.slice a cs.length cap)
   go_wp2_with fail
   exact hK _ _ _ _ _ _ _ _ _ _ _ _ _ _ _ _ _ _ _ _ _ _ hb2
end Sp
section
open Go Go.RowKit
set_option linter.unusedSimpArgs false
def zeb(xs:List Int):List Value:=xs.map fun x=>.int .i64 x
def zgl(xs:List Int)(cap:Nat):Array Value:=(zeb xs).toArray++Array.replicate (cap - xs.length) (.int .i64 0)
theorem zns(xs:List Int):(zeb xs).length=xs.length:=by simp[zeb]
theorem zgi(xs:List Int)(cap:Nat)(h:xs.length<=cap):(zgl xs cap).size=cap:=by simp[zgl,zeb];omega
def zbI:Value->Nat
 | .slice _ _ c=>c
 | _=>0
def zdN(w:World)(B:Nat)(e:TypeId)(v:Value)(xs:List Int):Prop :=
 (v=.slice none 0 0/\xs=[])\/∃ g cap,v=.slice (some ⟨g,0,none⟩) xs.length cap/\B<=g/\0<xs.length/\xs.length<=cap/\cap<=maxLen/\w.heap[g]?=some (.cells (zgl xs cap) e)
theorem zdN.below{w:World}(h:zdN w B e v xs)(hb:Below w.heap.size w w'):zdN w' B e v xs:=by
 rcases h with h|⟨g,cap,h1,h2,h3,h4,h5,h6⟩
 ·exact .inl h
 ·exact .inr ⟨g,cap,h1,h2,h3,h4,h5,(hb.block g (gei h6).1).trans h6⟩
theorem zdN.mono{w:World}{B':Nat}(h:zdN w B e v xs)(hB:B'<=B):zdN w B' e v xs:=by
 rcases h with h|⟨g,cap,h1,h2,h3⟩
 ·exact .inl h
 ·exact .inr ⟨g,cap,h1,qg,h3⟩
theorem zdN.own{w:World}(h:zdN w B e v xs):w.ownsRow B e 1 v xs.length (zeb xs):=by
 rcases h with ⟨rfl,rfl⟩|⟨g,cap,rfl,h2,h3,h4,h5,h6⟩
 ·exact World.ownsRow_nil _ _ _ _
 ·refine⟨by simp[zeb],.inr ⟨g,cap,_,rfl,h2,h6,h4,h5,by rw[zgi _ _ h4];omega,?_⟩⟩
  simp[zgl,zeb]
theorem zdN.ownBlock{w:World}(h:zdN w B e v xs):∀ k,v.ownBlock=some k->B<=k/\k<w.heap.size:=h.own.lt
theorem zet(n:Nat):Builtin.zeroCells (Value.int .i64 0).cells n=Array.replicate n (.int .i64 0):=by
 apply Array.ext
 ·simp[Builtin.zeroCells,Value.cells]
 ·intro i h1 h2
  simp[Builtin.zeroCells,Value.cells,Nat.mod_one]
theorem zmQ{w:World}{need C:Nat}{old:Nat}(h:∀ i q,w.tape i q=C - 1)(h1:1<=C)(h2:C<=maxLen):grownCap w 1 old e=C:=by
 unfold grownCap Question.cut
 rw[h]
 unfold maxLen at h2
 simp only
 rw[Nat.mod_eq_of_lt qg]
 omega
section
variable{P:Program}(w:World)
theorem ziA(t ty:TypeId)(B:Nat)(e:TypeId)(i:TypeInfo)(ht:P.underlying t=some (.slice e))(hi:P.info? e=some i)(hz:i.zero=some (.int .i64 0))(hsize:i.size=1)(hby:i.bytes=8)(v:Value)(xs:List Int)(hR:zdN w B e v xs)(ad:Addr)(c:Nat)(k:Int)(hk:w.cell? ad=some (.int .i64 k))(hxs:xs.length<=1000)(hB:B<=w.heap.size)(H:Nat)(hH:w.heap.size=H) :
  ∃ g cap w',(Builtin.append_ #[t,t] ty #[v,.slice (some ad) 1 c]).run P w=.ok (.slice (some ⟨g,0,none⟩) (xs.length+1) cap) w'/\zdN w' B e (.slice (some ⟨g,0,none⟩) (xs.length+1) cap) (xs++[k])/\w.grownBy w' v.ownBlock/\(v.ownBlock=some g\/g=H)/\g<w'.heap.size /\
   (∀ C,(∀ i q,w.tape i q=C - 1)->1<=C->C<=maxLen->xs.length+1<=C->(v=.slice none 0 0\/zbI v=C)->cap=C):=by
 have hnews:∀ j u,([.int .i64 k]:List Value)[j]?=some u->w.cell? (ad.add j)=some u:=by
  intro j u hj
  cases j with
  | zero =>
   rw[show ad.add 0=ad by unfold Addr.add;split <;> simp_all,hk]
   simpa using hj
  | succ j=>simp at hj
 rcases hR with ⟨rfl,rfl⟩|⟨g,cap,rfl,h2,h3,h4,h5,h6⟩
 ·have hr:=run_append_nil (P:=P) w t ty e i (.int .i64 0) ht hi hz ad 1 c [.int .i64 k] (by rw[hsize];rfl) hnews qg qg (by rw[hby];omega)
  have hge:=grownCap_ge w 1 0 e
  have hle:=grownCap_le_maxLen w 1 0 e qp
  refine⟨w.heap.size,grownCap w 1 0 e,_,hr,.inr ⟨w.heap.size,grownCap w 1 0 e,rfl,hB,qk,by simpa using hge,hle,?_⟩,?_,.inr hH,qk,?_⟩
  ·have e1:(#[Value.int .i64 k]++Builtin.zeroCells (Value.int .i64 0).cells (grownCap w 1 0 e - 1))=zgl ([]++[k]) (grownCap w 1 0 e):=by
    rw[zet]
    rfl
   rw[show ([Value.int .i64 k]:List Value).toArray=#[Value.int .i64 k] from rfl,e1]
   exact heap_alloc_new w.drew _
  ·exact⟨rfl,rfl,rfl,qk,fun j hj _=>by show (w.heap.push _)[j]?=w.heap[j]?;rw[Array.getElem?_push,if_neg (Nat.ne_of_lt hj)]⟩
  ·intro C hC h1 h2 _ _
   exact zmQ (need:=1) hC h1 h2
 ·by_cases hroom:xs.length+1<=cap
  ·have hr:=run_append_room (P:=P) w t ty e i ht hi g xs.length cap (zgl xs cap) h6 ad 1 c [.int .i64 k] (by rw[hsize];rfl) hnews qm hroom (by rw[hsize,zgi _ _ h4];simp;omega)
   have e1:((zgl xs cap).toList.take (xs.length * i.size)++[Value.int .i64 k]++(zgl xs cap).toList.drop (xs.length * i.size+([Value.int .i64 k]:List Value).length)).toArray=zgl (xs++[k]) cap:=by
    rw[hsize,Nat.mul_one]
    apply Array.ext'
    have:cap - xs.length=(cap - (xs.length+1))+1:=qg
    simp only[zgl,zeb,Array.toList_append,List.toList_toArray,Array.toList_replicate,this,List.length_append,List.length_cons,List.length_nil,List.map_append,List.map_cons,List.map_nil]
    rw[List.take_left' qk,List.replicate_succ,List.drop_append]
    simp
   rw[e1] at hr
   refine⟨g,cap,_,hr,.inr ⟨g,cap,qk,h2,qk,by simpa using hroom,h5,setRow_heap w g _ _ e _ h6⟩,?_,.inl rfl,?_,?_⟩
   ·exact⟨rfl,rfl,rfl,by simp[World.setRow],fun j hj hne=>setRow_other w g j _ (fun q=>hne (by simp[Value.ownBlock,q]))⟩
   ·have:=(gei h6).1
    simpa [World.setRow] using this
   ·intro C _ _ _ _ q
    rcases q with q|q
    ·cases q
    ·exact q
  ·have hcap:cap=xs.length:=qg
   subst hcap
   have hlo:∀ j u,(zeb xs)[j]?=some u->w.cell? ((⟨g,0,none⟩:Addr).add j)=some u:=by
    intro j u hj
    have hO:=(show zdN w B e (.slice (some ⟨g,0,none⟩) xs.length xs.length) xs from .inr ⟨g,xs.length,rfl,h2,h3,h4,h5,h6⟩).own
    exact hO.cells rfl j u hj
   have hr:=run_append_grow (P:=P) w t ty e i (.int .i64 0) ht hi hz ⟨g,0,none⟩ xs.length xs.length (zeb xs) (by rw[hsize,zns];omega) hlo ad 1 c [.int .i64 k] (by rw[hsize];rfl) hnews qg qg (growslice_fits_succ (by rw[hby];omega) (by rw[hby];omega))
   have hge:=grownCap_ge w (xs.length+1) xs.length e
   have hle:=grownCap_le_maxLen w (xs.length+1) xs.length e qp
   refine⟨w.heap.size,grownCap w (xs.length+1) xs.length e,_,hr,.inr ⟨w.heap.size,_,qk,hB,qk,by simpa using hge,hle,?_⟩,?_,.inr hH,qk,?_⟩
   ·have e1:(zeb xs).toArray++([Value.int .i64 k]:List Value).toArray++Builtin.zeroCells (Value.int .i64 0).cells (grownCap w (xs.length+1) xs.length e - (xs.length+1))=zgl (xs++[k]) (grownCap w (xs.length+1) xs.length e):=by
     rw[zet]
     simp[zgl,zeb]
    rw[e1]
    exact heap_alloc_new w.drew _
   ·exact⟨rfl,rfl,rfl,qk,fun j hj _=>by show (w.heap.push _)[j]?=w.heap[j]?;rw[Array.getElem?_push,if_neg (Nat.ne_of_lt hj)]⟩
   ·intro C _ _ _ hl q
    rcases q with q|q
    ·cases q
    ·simp only[zbI] at q
     omega
theorem zgg{ops:Array Oper}{rest:List Oper}{o:Oper}{Q:Exit->Act->World->Prop}(hgd:o.guard=none)(s x:Operand)(t:TypeId)(ho:o.op=.call { callee:=.builtin .append,args:=#[s,x],argTypes:=#[t,t] })(B:Nat)(e:TypeId)(i:TypeInfo)(ht:P.underlying t=some (.slice e))(hi:P.info? e=some i)(hz:i.zero=some (.int .i64 0))(hsize:i.size=1)(hby:i.bytes=8)(v:Value)(xs:List Int)(hs:a.eval s=v)(hR:zdN w B e v xs)(ad:Addr)(c:Nat)(k:Int)(hx:a.eval x=.slice (some ad) 1 c)(hk:w.cell? ad=some (.int .i64 k))(hxs:xs.length<=1000)(hB:B<=w.heap.size)(H:Nat)(hH:w.heap.size=H)(h:∀ g cap w',zdN w' B e (.slice (some ⟨g,0,none⟩) (xs.length+1) cap) (xs++[k])->w.grownBy w' v.ownBlock->(v.ownBlock=some g\/g=H)->g<w'.heap.size->(∀ C,(∀ i q,w.tape i q=C - 1)->1<=C->C<=maxLen->xs.length+1<=C->(v=.slice none 0 0\/zbI v=C)->cap=C)->wpList P ops Q rest (a.put o.dst (.slice (some ⟨g,0,none⟩) (xs.length+1) cap)) w'):wpList P ops Q (o::rest) a w :=
 wpList_plain hgd fun _ hK=>by
  obtain⟨g,cap,w',hr,h2,h3,h4,h5,h6⟩:=ziA (P:=P) w t o.type B e i ht hi hz hsize hby v xs hR ad c k hk hxs hB H hH
  unfold Oper.wp execOp
  simp only[ho,resolve,invoke,builtin,Sem.run_bind,Sem.run_pure,Result.andThen_ok,List.map_toArray,List.map_cons,List.map_nil,hs,hx,hr]
  exact hK _ _ (h g cap w' h2 h3 h4 h5 h6)
end
end
namespace Sp
variable{aLt:Nat->Func->Func}
open Go.RowKit
attribute [local go_sem ↓] Go.wp_at_zero Go.wp_at_succ
def ziZ(w:World)(C:Nat):Prop:=(∀ i q,w.tape i q=C - 1)/\1<=C/\C<=maxLen
theorem zm3(vs:List (Int × Int × Int))(i j:Nat)(h:i<=j):(zaF i vs).length<=(zaF j vs).length:=by
 obtain⟨m,rfl⟩:∃ m,j=i+m:=⟨j - i,qg⟩
 induction m with
 | zero=>exact Nat.le_refl _
 | succ m ih =>
  have hs:=zd1 vs (i+m)
  have h1:=ih qg
  rw[<- Nat.add_assoc,hs]
  by_cases q:seenAt vs (i+m)=true
  ·rw[if_pos q];simp;omega
  ·rw[if_neg q];exact h1
theorem zdf(wd:Int)(a:Option Addr)(cap:Nat)(cs:List (Int × Int))(w:World)(h:zaf w a cs)(hm:cs.length<=1048576)(k:Int) :
  Calls (SqG.prog aLt) 9 #[.agg #[.int .i64 wd,.slice a cs.length cap],.int .i64 k] w fun e w'=>∃ v,e=.returned v/\zdN w' w.heap.size 3 v (zar wd cs k)/\(∀ C,ziZ w C->(zar wd cs k).length<=C->v=.slice none 0 0\/zbI v=C)/\Below w.heap.size w w':=by
 obtain⟨i0,hi,iz0,iz1,iz2⟩:=info_parts (zkr (aLt:=aLt))
 obtain⟨L,hL⟩:∃ L,zaP wd cs k=L:=⟨_,rfl⟩
 obtain⟨hP,hln,h25,_⟩:=zeQ hL
 obtain⟨vs,hes⟩:∃ vs,L.1=vs:=⟨_,rfl⟩
 rw[hes] at hP hln h25
 have HF:Hid (zar wd cs k=zaF 25 vs):=by
  show _=_
  unfold zar
  rw[hL,hes]
  by_cases e:vs=[]
  ·subst e
   rw[zh2,zh2]
  ·exact(zq1 cs.length vs (h25 e) hP).symm
 rw[HF.out]
 have HP:Hid (∀ u∈vs,0<=u.1/\u.1<25):=fun u hu=>by
  have q1:=hP u hu
  have q2:=h25 (fun z=>by rw[z] at hu;simp at hu)
  omega
 have HL:Hid (zaP wd cs k=L):=hL
 have HES:Hid (L.1=vs):=hes
 obtain⟨u,hu⟩:∃ u,u=(w.alloc (.cells #[.int .i64 wd,.slice a cs.length cap] 25)).alloc (.cells #[.bool false,.bool false,.bool false,.bool false,.bool false,.bool false,.bool false,.bool false,.bool false,.bool false,.bool false,.bool false,.bool false,.bool false,.bool false,.bool false,.bool false,.bool false,.bool false,.bool false,.bool false,.bool false,.bool false,.bool false,.bool false] 46):=⟨_,rfl⟩
 have hbU:Below w.heap.size w u:=by rw[hu];exact bel
 have hV0:BkB u (w.heap.size+1) (fun _=>false):=by rw[hu];exact zcS _ _ _ qk
 have hC:=h.below hbU
 have zu:w.heap.size+2<=u.heap.size:=by rw[hu];simp
 clear hL hes hP h25
 go_enter (zfx func9),ntmps9
 go_wp2_with fail
 rw[<- hu]
 clear hu
 refine(zgd wd a cap cs _ hC hm k).mono ?_
 rw[HL.out,HES.out]
 rintro r x1 ⟨a0,c0,a1,c1,a2,n2,c2,rfl,o0,o1,hb1⟩
 have hfld:=zo5 (aLt:=aLt) a0 a1 a2 vs.length c0 L.2.length c1 n2 c2
 have hB1:=zai hbU qg hb1
 have hV1:BkB x1 (w.heap.size+1) (fun j=>seenAt (vs.take 0) j):=by
  have q:=hV0.below hb1
  unfold BkB at q ⊢
  rw[q,zmC _ (fun j=>seenAt (vs.take 0) j) (fun j _=>by simp[seenAt])]
 have hb2:=hb1.mono zu
 obtain⟨aX,cX,eX,hR3⟩:=zc0 o0
 simp only[Value.slice.injEq,true_and] at eX
 obtain⟨rfl,rfl⟩:=eX
 have hrn:∀ b off,a0=some ⟨b,off,none⟩->u.heap.size<=b:=by
  intro b off e
  subst e
  rcases o0.2 with ⟨q,_⟩|⟨g,cp,cur,q,hg,_⟩
  ·simp at q
  ·simp only[Value.slice.injEq,Option.some.injEq,Addr.mk.injEq] at q
   omega
 have HR:Hid (∀ w',(∀ b,b<x1.heap.size->b≠w.heap.size+1->w'.heap[b]?=x1.heap[b]?)->x1.heap.size<=w'.heap.size->zoG w' a0 vs):=by
  intro w' hq hz
  rcases hR3 with q|⟨b,off,e,hbl,hc⟩
  ·exact Or.inl q
  ·have hne:=hrn b off e
   refine Or.inr ⟨b,off,e,qg,fun i hi=>?_⟩
   have hk:=hq b hbl qg
   exact⟨by rw[World.cell?_of_block (w:=x1) hk];exact(hc i hi).1,by rw[World.cell?_of_block (w:=x1) hk];exact(hc i hi).2.1,by rw[World.cell?_of_block (w:=x1) hk];exact(hc i hi).2.2⟩
 clear hb1 o0 o1 hC hbU hV0 hR3 hrn
 go_wp2_with fail
 go_loopw [16] (fun ii wr=>∃ i:Nat,i<=vs.length/\ii=.int .i64 i/\Below w.heap.size w wr/\(∀ b,b<x1.heap.size->b≠w.heap.size+1->wr.heap[b]?=x1.heap[b]?)/\x1.heap.size<=wr.heap.size/\BkB wr (w.heap.size+1) (fun j=>seenAt (vs.take i) j)) (fun ii _=>vs.length - (intOf ii).toNat)
 case atStart=>exact⟨0,Nat.zero_le _,rfl,hB1,fun _ _ _=>rfl,Nat.le_refl _,hV1⟩
 case round =>
  rename World=>wo
  obtain⟨i,hi1,rfl,hb,hfr,hsz,hV⟩:=hrel
  have hgl:=hV.lt
  by_cases hlt:i<vs.length
  ·have hR3:=HR.out wo hfr hsz
   rcases hR3 with q|⟨b,off,rfl,hbl,hc⟩
   ·rw[q] at hlt;simp at hlt
   obtain⟨t,et⟩:∃ t,vs.getD i (0,0,0)=t:=⟨_,rfl⟩
   have hmem:t∈vs:=by rw[<- et];simp[List.getElem?_eq_getElem hlt]
   obtain⟨z0,z1,z2⟩:=hc i hlt
   rw[et] at z0 z1 z2
   obtain⟨hx0,hx1⟩:=HP.out t hmem
   obtain⟨t0,t1,t2⟩:=t
   simp only at z0 z1 z2 hx0 hx1
   obtain⟨X,rfl⟩:=Int.eq_ofNat_of_zero_le hx0
   have hXn:X<25:=qg
   have hst:∀ j,seenAt (vs.take (i+1)) j=(seenAt (vs.take i) j || ((X:Int) == (j:Int))):=by
    intro j
    rw[zeq vs i (0,0,0) hlt,et]
    unfold seenAt
    rw[List.any_append]
    simp
   have hbA:Below wo.heap.size wo (wo.alloc (.cells #[.int .i64 (X:Int),.int .i64 t1,.int .i64 t2] 54)):=bel
   have hVA:=hV.below hbA
   have y0:=hVA.cell X hXn
   have yf:=hVA.fz X
   have hVS:BkB (wo.setCell ⟨w.heap.size+1,X,none⟩ (.bool true)) (w.heap.size+1) (fun j=>seenAt (vs.take (i+1)) j):=by
    refine hV.put X hXn (show seenAt (vs.take (i+1)) X=true by rw[hst];simp) (fun j _ hne=>?_)
    show seenAt (vs.take (i+1)) j=seenAt (vs.take i) j
    rw[hst]
    have:((X:Int) == (j:Int))=false:=ql
    rw[this];simp
   obtain⟨wS,hwS⟩:∃ wS,wS=wo.setCell ⟨w.heap.size+1,X,none⟩ (.bool true):=⟨_,rfl⟩
   have hbS:Below w.heap.size w wS:=by rw[hwS];exact hb.setCell (p:=⟨w.heap.size+1,X,none⟩) (by show w.heap.size<=w.heap.size+1;omega) _
   have hfS:∀ b,b<x1.heap.size->b≠w.heap.size+1->wS.heap[b]?=x1.heap[b]?:=by
    intro b hb' hne
    rw[hwS,Below.heap_setCell _ ⟨w.heap.size+1,X,none⟩ _ b hne]
    exact hfr b hb' hne
   have hzS:x1.heap.size<=wS.heap.size:=by rw[hwS];simpa using hsz
   have hbB:Below wS.heap.size wS (wS.alloc (.cells #[.int .i64 (X:Int),.int .i64 t1,.int .i64 t2] 54)):=bel
   rw[<- hwS] at hVS
   have hV2:=hVS.below hbB
   have hb3:=zai hbS hbS.size hbB
   have hfr2:∀ b,b<x1.heap.size->b≠w.heap.size+1->(wS.alloc (.cells #[.int .i64 (X:Int),.int .i64 t1,.int .i64 t2] 54)).heap[b]?=x1.heap[b]?:=by
    intro b hb' hne
    rw[hbB.block b qg]
    exact hfS b hb' hne
   have hsz2:x1.heap.size<=(wS.alloc (.cells #[.int .i64 (X:Int),.int .i64 t1,.int .i64 t2] 54)).heap.size:=by have:=hbB.size;omega
   obtain⟨bv,ebv⟩:∃ bv,seenAt (vs.take i) X=bv:=⟨_,rfl⟩
   have y0':=hV.cell X hXn
   have yf':=hV.fz X
   rw[ebv] at y0 y0'
   rw[hwS] at hV2 hb3 hfr2 hsz2
   clear hst hc hmem et ebv hV hVA hfr hb hVS hbS hfS hzS hbB
   clear hwS
   go_wp2_with fail
   go_roundw
   case rel=>exact⟨i+1,qg,by go_num,hb3,hfr2,hsz2,hV2⟩
   case measure=>exact qe
  ·have hV2:BkB wo (w.heap.size+1) (fun j=>seenAt vs j):=by
    unfold BkB at hV ⊢
    rw[hV,List.take_of_length_le qg]
   have hO:zdN wo (w.heap.size+2) 3 (.slice none 0 0) (zaF 0 vs):=Or.inl ⟨rfl,rfl⟩
   clear hV hfr HR
   go_wp2_with (refine wpList_load_row rfl 46 (.tmp 5) rfl (w.heap.size+1) rfl 46 (zoL fun j=>seenAt vs j) (0,0) _ hV2 zqj rfl (by rw[zq7,zcj]) ?_)
   go_wp2_with fail
   go_loopw [8,25] (fun oo ii wr=>∃ i:Nat,i<=25/\ii=.int .i64 i/\Below w.heap.size w wr/\w.heap.size+2<=wr.heap.size/\zdN wr (w.heap.size+2) 3 oo (zaF i vs)/\(∀ C,ziZ w C->(zaF 25 vs).length<=C->oo=.slice none 0 0\/zbI oo=C)) (fun _ ii _=>25 - (intOf ii).toNat)
   case atStart=>exact⟨0,qg,rfl,hb,qg,hO,fun _ _ _=>.inl rfl⟩
   case round =>
    rename World=>wp
    obtain⟨i2,hi2,rfl,hb',hz',hO2,hT2⟩:=hrel
    have HT2:Hid (∀ C,ziZ w C->(zaF 25 vs).length<=C->u8=.slice none 0 0\/zbI u8=C):=hT2
    clear hT2
    by_cases hl2:i2<25
    ·have hix:=zsD (aLt:=aLt) (fun j=>seenAt vs j) i2 hl2
     have hfl:=zdH i2 vs
     have hfs:=zd1 vs i2
     rcases hsn:seenAt vs i2 with _|_
     ·rw[hsn] at hix
      rw[if_neg (by simp[hsn])] at hfs
      have HFS:Hid (zaF (i2+1) vs=zaF i2 vs):=hfs
      clear hfs hsn
      go_wp2_with fail
      go_roundw
      case rel=>exact⟨i2+1,qg,by go_num,hb',hz',by rw[HFS.out];exact hO2,HT2.out⟩
      case measure=>exact qe
     ·rw[hsn] at hix
      rw[if_pos hsn] at hfs
      have HFS:Hid (zaF (i2+1) vs=zaF i2 vs++[(i2:Int)]):=hfs
      clear hfs hsn
      have hlm:=zm3 vs (i2+1) 25 qg
      have hbA:Below wp.heap.size wp (wp.alloc (.cells #[.int .i64 (i2:Int)] 3)):=(Below.refl _ _).alloc (Nat.le_refl _) _
      have hOA:=hO2.below hbA
      go_wp2_with (at_builtin;refine zgg _ rfl _ _ _ rfl (w.heap.size+2) 3 i0 SqG.underlying26 hi iz0 iz1 iz2 _ (zaF i2 vs) rfl hOA ⟨wp.heap.size,0,none⟩ 1 (i2:Int) rfl qj qg ql (wp.heap.size+1) qk ?_)
      intro g6 k6 w6 hO6 hg6 hat6 hlt6 hrm6
      have hown:=fun k q=>(hO2.ownBlock k q).1
      have hz6:=hg6.size
      simp at hz6
      have hb6:Below w.heap.size w w6:=by
       have hzb:=hb'.size
       refine⟨(hg6.os.trans hbA.os).trans hb'.os,(hg6.tape.trans hbA.tape).trans hb'.tape,(hg6.output.trans hbA.output).trans hb'.output,qg,fun k hk=>?_⟩
       rw[hg6.block k ql (fun q=>by have:=hown k q.symm;omega),hbA.block k qg]
       exact hb'.block k hk
      have hT7:Hid (∀ C,ziZ w C->(zaF 25 vs).length<=C->(Value.slice (some ⟨g6,0,none⟩) ((zaF i2 vs).length+1) k6)=.slice none 0 0\/zbI (Value.slice (some ⟨g6,0,none⟩) ((zaF i2 vs).length+1) k6)=C):=by
       intro C hC hl
       refine .inr (hrm6 C (fun i q=>?_) hC.2.1 hC.2.2 ?_ (HT2.out C hC hl))
       ·first
         | (rw[hb'.tape];exact hC.1 i q)
         | (rw[show (wp.alloc (.cells #[.int .i64 (i2:Int)] 3)).tape=wp.tape from rfl,hb'.tape];exact hC.1 i q)
       ·rw[HFS.out] at hlm
        simp at hlm
        omega
      have hz7:w.heap.size+2<=w6.heap.size:=qg
      clear hg6 hat6 hb' hO2 hbA hown hOA hrm6 HT2 hlm
      go_wp2_with fail
      go_roundw
      case rel=>exact⟨i2+1,qg,by go_num,hb6,hz7,by rw[HFS.out];exact hO6,hT7.out⟩
      case measure=>exact qe
    ·have hfin:i2=25:=qg
     subst hfin
     have hO3:zdN wp w.heap.size 3 u8 (zaF 25 vs):=hO2.mono qg
     go_wp2_with fail
     go_ret
     exact⟨_,rfl,hO3,HT2.out,hb'⟩
theorem zh5(wd:Int)(a:Option Addr)(cap:Nat)(cs:List (Int × Int))(w:World)(h:zaf w a cs)(hm:cs.length<=1048576)(k:Int) :
  Calls (SqG.prog aLt) 9 #[.agg #[.int .i64 wd,.slice a cs.length cap],.int .i64 k] w fun e w'=>∃ v,e=.returned v/\zcu w' w.heap.size v (zar wd cs k)/\Below w.heap.size w w' :=
 (zdf wd a cap cs w h hm k).mono fun _ _ ⟨v,e1,h1,_,h2⟩=>⟨v,e1,h1.own,h2⟩
end Sp
namespace Sp
variable{aLt:Nat->Func->Func}
open Go.RowKit
theorem zmP{P:Program}{w:World}{ops:Array Oper}{rest:List Oper}{o:Oper}{Q:Exit->Act->World->Prop}(hgd:o.guard=none)(d s:Operand)(dT sT:TypeId)(ho:o.op=.call { callee:=.builtin .copy,args:=#[d,s],argTypes:=#[dT,sT] })(e:TypeId)(hu:P.underlying dT=some (.slice e))(hsz:(P.info? e).map (·.size)=some 2)(B g n cap:Nat)(xs:List Value)(ad:Addr)(sCap:Nat)(hd:a.eval d=.slice (some ⟨g,0,none⟩) n cap)(hs:a.eval s=.slice (some ad) n sCap)(hown:w.ownsRow B e 2 (.slice (some ⟨g,0,none⟩) n cap) n xs)(cs:List Value)(hn:cs.length=n * 2)(hsrc:∀ j v,cs[j]?=some v->w.cell? (ad.add j)=some v)(h1:∀ v∈cs,v.oneCell'=true)(h:∀ w',w'.ownsRow B e 2 (.slice (some ⟨g,0,none⟩) n cap) n cs->w.grownBy w' (some g)->wpList P ops Q rest (a.put o.dst (goInt n)) w'):wpList P ops Q (o::rest) a w:=by
 obtain⟨hx,hr⟩:=hown
 rcases hr with ⟨h0,_⟩|⟨g',cap',cur,hv,hB,hg,hc1,hc2,hc3,htake⟩
 ·simp at h0
 ·simp only[Value.slice.injEq,Option.some.injEq,Addr.mk.injEq,and_true,true_and] at hv
  obtain⟨rfl,rfl⟩:=hv
  refine wpList_plain hgd fun K hK=>?_
  have hl:=run_loadCells_list (P:=P) w ad cs hsrc
  have hfit:n * 2<=cur.size:=by rw[hc3];exact Nat.mul_le_mul_right 2 hc1
  have hst:=run_storeCells_at P g 0 e cs 0 cur w hg (by simp[hn];exact hfit) h1
  have hrun:(Builtin.copy_ #[dT,sT] o.type #[.slice (some ⟨g,0,none⟩) n cap,.slice (some ad) n sCap]).run P w=.ok (goInt n) (w.setRow g (cur.toList.take 0++cs++cur.toList.drop (0+cs.length)).toArray):=by
   cases hq:P.info? e with
   | none=>simp[hq] at hsz
   | some i =>
    have hi:i.size=2:=by simpa [hq] using hsz
    rw[hn] at hl
    simp only[Nat.add_zero] at hst
    simp[Builtin.copy_,run_underlying hu,Builtin.lenOf,Builtin.firstCells,sizeOf,typeInfo,hq,hi,hl,hst]
  unfold Oper.wp
  simp only[execOp,ho]
  simp[resolve,invoke,builtin,hd,hs,hrun,Result.andThen]
  refine hK _ _ ?_
  have hset:=setRow_heap w g cur (cs++cur.toList.drop cs.length).toArray e (0,0) hg
  have hlen:(cs++cur.toList.drop cs.length).length=cap * 2:=by
   have hcl:cur.toList.length=cap * 2:=by simpa using hc3
   simp only[List.length_append,List.length_drop]
   rw[hcl,hn]
   have:=Nat.mul_le_mul_right 2 hc1
   omega
  have:=h (w.setRow g (cs++cur.toList.drop cs.length).toArray) ⟨hn,Or.inr ⟨g,cap,_,rfl,hB,hset,hc1,hc2,by simpa using hlen,by rw[<- hn];simp⟩⟩
   ⟨rfl,rfl,rfl,by simp[World.setRow],fun k _ hk=>setRow_other w g k _ (fun ek=>hk (by simp[ek]))⟩
  simpa using this
theorem Own.other{w:World}{g cap:Nat}(h:Own w B (.slice (some ⟨g,0,none⟩) n cap) cs){p:Addr}(hne:g≠p.block)(u:Value):Own (w.setCell p u) B (.slice (some ⟨g,0,none⟩) n cap) cs:=by
 obtain⟨h1,h2⟩:=h
 refine⟨h1,?_⟩
 rcases h2 with ⟨h2,_⟩|⟨g',cap',cur,hv,hg,hh,r⟩
 ·simp at h2
 ·have hv':=hv
  simp only[Value.slice.injEq,Option.some.injEq,Addr.mk.injEq,and_true] at hv'
  exact Or.inr ⟨g',cap',cur,hv,hg,by rw[Below.heap_setCell _ _ _ _ (by rw[<- hv'.1];exact hne)];exact hh,r⟩
theorem zpO:((SqG.prog aLt).info? 60).map (·.size)=some 2:=qh
theorem zkn(cs:List (Int × Int)):∀ v∈flat cs,v.oneCell'=true:=by
 intro v hv
 simp only[flat,List.mem_flatMap,List.mem_cons,List.not_mem_nil,or_false] at hv
 obtain⟨c,_,rfl|rfl⟩:=hv <;> rfl
theorem zhU{w:World}{b off:Nat}(h:∀ i,i<cs.length->w.cell? ⟨b,off+i * 2,none⟩=some (.int .i64 (cs.getD i (0,0)).1)/\w.cell? ⟨b,off+i * 2+1,none⟩=some (.int .i64 (cs.getD i (0,0)).2)) :
  ∀ j v,(flat cs)[j]?=some v->w.cell? ((⟨b,off,none⟩:Addr).add j)=some v:=by
 intro j v hv
 have hadd:(⟨b,off,none⟩:Addr).add j=⟨b,off+j,none⟩:=by unfold Addr.add;split <;> simp_all
 rw[hadd]
 have hj:j<cs.length * 2:=by
  rw[<- ze2]
  exact(List.getElem?_eq_some_iff.1 hv).1
 have hi:j / 2<cs.length:=qg
 have hf:=zhc cs (j / 2) hi
 have hc:=h (j / 2) hi
 rcases (show j=j / 2 * 2\/j=j / 2 * 2+1 by omega) with e|e
 ·rw[<- e] at hf hc
  rw[hf.1] at hv
  rw[hc.1];exact hv
 ·rw[<- e] at hf
  rw[hf.2] at hv
  rw[Nat.add_assoc,<- e] at hc
  rw[hc.2];exact hv
theorem zeG(wd:Int)(a:Option Addr)(cap:Nat)(cs:List (Int × Int))(w:World)(hC:zaf w a cs)(hm:cs.length<=1048576)(hlen:0<cs.length) :
  Calls (SqG.prog aLt) 35 #[.agg #[.int .i64 wd,.slice a cs.length cap]] w fun e w'=>∃ g,e=.returned (.agg #[.int .i64 wd,.slice (some ⟨g,0,none⟩) cs.length cs.length])/\Own w' w.heap.size (.slice (some ⟨g,0,none⟩) cs.length cs.length) cs/\Below w.heap.size w w':=by
 obtain⟨i0,hi,iz0,iz1,iz2⟩:=info_parts (ze3 (aLt:=aLt))
 go_enter (zfx func35),ntmps35
 go_wp2_with (at_make;refine wpList_make_full _ rfl _ _ 23 rfl w.heap.size 60 i0 (.agg #[.int .i64 0,.int .i64 0]) 2 SqG.underlying23 hi iz0 iz1 .i64 .i64 _ _ cs.length rfl rfl rfl rfl ?_ ?_ ?_ ?_)
 ·rw[iz2];omega
 ·unfold maxLen;omega
 ·simp;omega
 intro w3 hO3 hg3
 have hb3:=(Below.refl _ _).grown hg3 (Nat.le_refl _) (fun k hk=>by cases hk)
 have hz3:=hb3.size
 have hB3:Below w.heap.size w w3:=zai bel ql hb3
 have p0:w3.cell? ⟨w.heap.size,0,none⟩=some (.int .i64 wd):=zad hb3 qj
 have p1:w3.cell? ⟨w.heap.size,1,none⟩=some (.slice a cs.length cap):=zad hb3 qj
 have p4:w3.cell? ⟨w.heap.size+1,0,none⟩=some (.int .i64 0):=zad hb3 qj
 have p5:w3.cell? ⟨w.heap.size+1,1,none⟩=some (.slice none 0 0):=zad hb3 qj
 have f4:w3.frozen? ⟨w.heap.size+1,0,none⟩=false:=zal hb3 (v:=.int .i64 0) qj qj
 have f5:w3.frozen? ⟨w.heap.size+1,1,none⟩=false:=zal hb3 (v:=.slice none 0 0) qj qj
 clear hg3 hb3
 simp at hz3 hO3
 have hC3:=hC.below hB3
 rcases hC3 with h0|⟨b,off,rfl,hbl,hcell⟩
 ·rw[h0] at hlen;simp at hlen
 go_wp2_with (refine zmP rfl (.tmp 8) (.tmp 10) 23 23 rfl 60 SqG.underlying23 zpO w.heap.size (w.heap.size+1+1) cs.length cs.length _ ⟨b,off,none⟩ cap rfl rfl hO3 (flat cs) (ze2 cs) ?_ ?_ ?_)
 ·exact zhU hcell
 ·exact zkn cs
 intro w4 hO4 hg4
 have hOw:Own w4 w.heap.size (.slice (some ⟨w.heap.size+1+1,0,none⟩) cs.length cs.length) cs:=hO4
 have hB4:Below w.heap.size w w4:=hB3.grown hg4 qg (fun k hk=>by simp at hk;omega)
 have hz4:=hg4.size
 have hne:∀ x,x<w.heap.size+1+1->some x≠some (w.heap.size+1+1):=by intro x hx;simp;omega
 replace f4:=(World.frozen?_of_block (a:=⟨w.heap.size+1,0,none⟩) (hg4.block (w.heap.size+1) qg (hne _ qg))).trans f4
 replace f5:=(World.frozen?_of_block (a:=⟨w.heap.size+1,1,none⟩) (hg4.block (w.heap.size+1) qg (hne _ qg))).trans f5
 replace p0:=hg4.cell p0 (hne _ ql)
 replace p1:=hg4.cell p1 (hne _ ql)
 replace p4:=hg4.cell p4 (hne _ qk)
 replace p5:=hg4.cell p5 (hne _ qk)
 clear hO4 hg4 hcell hne hC hO3
 go_wp2
 refine bodyPost_ret (v:=.agg #[.int .i64 wd,.slice (some ⟨w.heap.size+1+1,0,none⟩) cs.length cs.length]) (by simp[results,results35,go_sem,p4,p5]) rfl ⟨_,rfl,?_,?_⟩
 ·exact(hOw.other qk _).other qk _
 ·exact(hB4.setCell qk _).setCell qk _
theorem zf5{P:Program}{ops:Array Oper}{o:Oper}{w:World}{Q:Exit->Act->World->Prop}{E:Prop}(hgd:o.guard=none)(s x:Operand)(t:TypeId)(ho:o.op=.call { callee:=.builtin .append,args:=#[s,x],argTypes:=#[t,t] })(base:Nat)(e:TypeId)(i:TypeInfo)(z:Value)(size bytes:Nat)(ht:P.underlying t=some (.slice e))(hi:P.info? e=some i)(hz:i.zero=some z)(hsize:i.size=size)(hby:i.bytes=bytes)(hzs:z.cells.size=size)(hsz:0<size)(v:Value)(n:Nat)(xs:List Value)(hs:a.eval s=v)(hown:w.ownsRow base e size v n xs)(ad:Addr)(m c:Nat)(news:List Value)(hx:a.eval x=.slice (some ad) m c)(hl:news.length=m * size)(hnews:∀ j u,news[j]?=some u->w.cell? (ad.add j)=some u)(h1:∀ u∈news,u.oneCell'=true)(h63:n+m<=maxLen)(hbytes:(n+m) * bytes<=140737488355328)(hbase:base<=w.heap.size)(h:∀ v' w',w'.ownsRow base e size v' (n+m) (xs++news)->w.grownBy w' v.ownBlock->(v'=.slice none 0 0 ↔ v=.slice none 0 0/\m=0)->K (a.put o.dst v') w') :
  if Region.wanted o (yielded ops a.tmps)=true then Oper.wp P o a w K Q else E:=by
 have hw:Region.wanted o (yielded ops a.tmps)=true:=by simp[Region.wanted,hgd]
 rw[if_pos hw]
 exact wp_append_own w s x t ho base e i z size bytes ht hi hz hsize hby hzs hsz v n xs hs hown ad m c news hx hl hnews h1 h63 hbytes hbase h
theorem zpA{w:World}{size:Nat}{xs:List Value}(h:w.ownsRow B e size v n xs)(hn:0<n):∃ g cap,v=.slice (some ⟨g,0,none⟩) n cap/\B<=g/\g<w.heap.size:=by
 rcases h.2 with ⟨_,h0⟩|⟨g,cap,cur,hv,hB,hg,_⟩
 ·omega
 ·exact⟨g,cap,hv,hB,(gei hg).1⟩
theorem zlD(w:World)(B:Nat)(e:TypeId)(size:Nat)(hB:B<=w.heap.size):(w.alloc (.cells #[] e)).ownsRow B e size (.slice (some ⟨w.heap.size,0,none⟩) 0 0) 0 []:=by
 refine⟨qk,Or.inr ⟨w.heap.size,0,#[],rfl,hB,heap_alloc_new w _,Nat.le_refl _,qp,qk,qk⟩⟩
theorem zlo(wd:Int)(b off cap:Nat)(cs:List (Int × Int))(w:World)(hbl:b<w.heap.size)(hcell:∀ i,i<cs.length->w.cell? ⟨b,off+i * 2,none⟩=some (.int .i64 (cs.getD i (0,0)).1)/\w.cell? ⟨b,off+i * 2+1,none⟩=some (.int .i64 (cs.getD i (0,0)).2))(hm:cs.length<=1048576)(hp:0<cs.length) :
  Calls (SqG.prog aLt) 28 #[.agg #[.int .i64 wd,.slice (some ⟨b,off,none⟩) cs.length cap]] w fun e w'=>∃ g cap',e=.returned (.agg #[.int .i64 wd,.slice (some ⟨g,0,none⟩) cs.length cap'])/\Own w' w.heap.size (.slice (some ⟨g,0,none⟩) cs.length cap') cs/\Below w.heap.size w w':=by
 obtain⟨i0,hi,iz0,iz1,iz2⟩:=info_parts (ze3 (aLt:=aLt))
 go_enter (zfx func28),ntmps28
 go_wp2_with fail
 have hE:((((w.alloc (.cells #[.int .i64 wd,.slice (some ⟨b,off,none⟩) cs.length cap] 25)).alloc (.cells #[.int .i64 0,.slice none 0 0] 25)).alloc (.cells #[] 60)).drew).ownsRow w.heap.size 60 2 (.slice (some ⟨w.heap.size+1+1,0,none⟩) 0 0) 0 [] :=
  World.ownsRow.drew (by have:=zlD ((w.alloc (.cells #[.int .i64 wd,.slice (some ⟨b,off,none⟩) cs.length cap] 25)).alloc (.cells #[.int .i64 0,.slice none 0 0] 25)) w.heap.size 60 2 ql;simpa using this)
 have hB3:Below w.heap.size w ((((w.alloc (.cells #[.int .i64 wd,.slice (some ⟨b,off,none⟩) cs.length cap] 25)).alloc (.cells #[.int .i64 0,.slice none 0 0] 25)).alloc (.cells #[] 60)).drew):=bel
 have hSrc:∀ j u,(flat cs)[j]?=some u->((((w.alloc (.cells #[.int .i64 wd,.slice (some ⟨b,off,none⟩) cs.length cap] 25)).alloc (.cells #[.int .i64 0,.slice none 0 0] 25)).alloc (.cells #[] 60)).drew).cell? ((⟨b,off,none⟩:Addr).add j)=some u:=by
  intro j u hj
  rw[hB3.cell (by unfold Addr.add;split <;> exact hbl)]
  exact zhU hcell j u hj
 have HE:=hE
 have HSrc:=hSrc
 clear hE hSrc hcell
 go_region_law (refine zf5 rfl (.tmp 5) (.tmp 7) 23 rfl w.heap.size 60 i0 _ 2 16 SqG.underlying23 hi iz0 iz1 iz2 rfl qi (.slice (some ⟨w.heap.size+1+1,0,none⟩) 0 0) 0 [] rfl HE ⟨b,off,none⟩ cs.length cap (flat cs) rfl (ze2 cs) HSrc (zkn cs) qp qg ql ?_;intro v' w1 hO1 hg1 hn1;simp only[Nat.zero_add,List.nil_append] at hO1;obtain⟨g,cap',hv,hgB,hgl⟩:=zpA hO1 hp;subst hv;have q2:w1.cell? ⟨w.heap.size,0,none⟩=some (.int .i64 wd):=hg1.cell qj (by simp[Value.ownBlock];omega);have q0:w1.cell? ⟨w.heap.size+1,0,none⟩=some (.int .i64 0):=hg1.cell qj (by simp[Value.ownBlock]);have q1:w1.cell? ⟨w.heap.size+1,1,none⟩=some (.slice none 0 0):=hg1.cell qj (by simp[Value.ownBlock]);have f0:w1.frozen? ⟨w.heap.size+1,0,none⟩=false:=(World.frozen?_of_block (a:=⟨w.heap.size+1,0,none⟩) (hg1.block (w.heap.size+1) qk (by simp[Value.ownBlock]))).trans qj;have f1:w1.frozen? ⟨w.heap.size+1,1,none⟩=false:=(World.frozen?_of_block (a:=⟨w.heap.size+1,1,none⟩) (hg1.block (w.heap.size+1) qk (by simp[Value.ownBlock]))).trans qj)
 all_goals
  go_wp2
  have hB1:Below w.heap.size w w1:=hB3.grown hg1 ql (fun k hk=>by simp[Value.ownBlock] at hk;omega)
  have hgne:g≠w.heap.size+1:=by
   intro hx
   subst hx
   have hO:Own w1 w.heap.size (.slice (some ⟨w.heap.size+1,0,none⟩) cs.length cap') cs:=hO1
   have hc:=(hO.cell rfl 0 hp).1
   have hc2:=(hO.cell rfl 0 hp).2.1
   simp only[Nat.zero_mul,Nat.zero_add] at hc2
   rw[q1] at hc2
   simp at hc2
  refine bodyPost_ret (v:=.agg #[.int .i64 wd,.slice (some ⟨g,0,none⟩) cs.length cap']) (by simp[results,results28,go_sem,q0,q1]) rfl ⟨g,cap',rfl,?_,?_⟩
  ·exact(Own.other (Own.other hO1 hgne _) hgne _)
  ·exact(hB1.setCell qk _).setCell qk _
theorem zpe:((SqG.prog aLt).info? 3).map (fun i=>(i.zero,i.size,i.bytes))=some (some (.int .i64 0),1,8):=qh
theorem zku(n:Nat)(hn:n<=1048576)(w:World):(Instr.makeSlice 26 (.int .i64 (n:Int)) (.int .i64 (n:Int))).run (SqG.prog aLt) w=.ok (.slice (some ⟨w.heap.size,0,none⟩) n n) (w.alloc (.cells (madeCells #[.int .i64 0] n) 3)):=by
 obtain⟨i0,hi,iz0,iz1,iz2⟩:=info_parts (zpe (aLt:=aLt))
 have:=run_make (P:=(SqG.prog aLt)) w 26 3 i0 (.int .i64 0) SqG.underlying26 hi iz0 .i64 .i64 (n:Int) (n:Int) qg qg (by rw[iz2];omega) qg
 rw[iz1] at this
 simpa [Value.cells] using this
end Sp
namespace Sp
open Go.RowKit
attribute [local go_sem ↓] Go.wp_at_zero Go.wp_at_succ
theorem zkL(wd:Int)(a:Option Addr)(cap:Nat)(cs:List (Int × Int))(w:World)(h:zaf w a cs)(hm:cs.length<4611686018427387904)(hk:okG wd cs=false) :
  Calls SqP.prog 22 #[.agg #[.int .i64 wd,.slice a cs.length cap]] w fun e w'=>e=.returned (.tuple #[.agg #[.int .i64 0,.slice none 0 0,.slice none 0 0,.slice none 0 0],.bool false])/\Below w.heap.size w w':=by
 go_enter SqP.func22,SqP.ntmps22
 unfold zqV
 refine wp_seq (zqW wd a cap cs w h hm fun w1 u1 u2 u3 u4 u5 u6 u7 u8 u9 u10 u11 u12 u13 u14 u15 u16 u17 u18 u19 u20 u21 hb1=>wp_skip ?_)
 have hC:=h.below hb1
 have hz:=hb1.size
 show Code.wp _ _ _ _ _
 unfold zgK scG scN
 simp only[opr]
 go_wp2_with fail
 refine(zbA _ _ _ cs _ hC qg).mono ?_
 rintro e w2 ⟨rfl,hb2⟩
 rw[hk]
 have hB2:=zai hb1 hz hb2
 go_wp2_with fail
 refine bodyPost_ret (v:=.tuple #[.agg #[.int .i64 0,.slice none 0 0,.slice none 0 0,.slice none 0 0],.bool false]) (by simp[results,SqP.results22,results22,go_sem]) rfl ⟨rfl,hB2.alloc hB2.size _⟩
theorem zpf:(SqP.prog.info? 26).map (fun i=>(i.zero,i.size,i.bytes))=some (some (.slice none 0 0),1,24):=qh
theorem zgH(n:Nat)(hn:n<=1048576)(w:World):(Instr.makeSlice 27 (.int .i64 (n:Int)) (.int .i64 (n:Int))).run SqP.prog w=.ok (.slice (some ⟨w.heap.size,0,none⟩) n n) (w.alloc (.cells (madeCells #[.slice none 0 0] n) 26)):=by
 obtain⟨i0,hi,iz0,iz1,iz2⟩:=info_parts zpf
 have:=run_make (P:=SqP.prog) w 27 26 i0 (.slice none 0 0) SqP.underlying27 hi iz0 .i64 .i64 (n:Int) (n:Int) qg qg (by rw[iz2];omega) qg
 rw[iz1] at this
 simpa [Value.cells] using this
theorem zr1(wd:Int)(a:Option Addr)(cap:Nat)(cs:List (Int × Int))(w:World)(h:zaf w a cs)(hm:cs.length<=1048576)(M k gc gl gf:Nat)(hkM:k<M)(hM:M<=20)(arrL arrF:Array Value)(hL:w.heap[gl]?=some (.cells arrL 3))(hF:w.heap[gf]?=some (.cells arrF 26))(hLs:arrL.size=M)(hFs:arrF.size=M)(hlf:gl≠gf)(hca:∀ b off,a=some ⟨b,off,none⟩->b≠gl/\b≠gf)(C:Nat)(hT:ziZ w C)(hlen:(zar wd cs k).length<=C)(u1 u2 u3 u4 u5 u11 u12 u13 u14 u15 u16 u17 u18 u19 u20 u21:Value){Q:Exit->Act->World->Prop}(hK:∀(v u11 u12 u13 u14 u15:Value) (w':World),zdN w' w.heap.size 3 v (zar wd cs k)->(v=.slice none 0 0\/zbI v=C)->w'.heap[gl]?=some (.cells (arrL.setIfInBounds k (.int .i64 (za0 wd cs k))) 3)->w'.heap[gf]?=some (.cells (arrF.setIfInBounds k v) 26)->(∀ b,b<w.heap.size->b≠gl->b≠gf->w'.heap[b]?=w.heap[b]?)->w.heap.size<=w'.heap.size->w'.os=w.os/\w'.tape=w.tape/\w'.output=w.output->Q .normal ⟨#[.agg #[.int .i64 wd,.slice a cs.length cap],u1,u2,u3,u4,u5,.agg #[.int .i64 wd,.slice (some ⟨gc,0,none⟩) cs.length cs.length],.int .i64 (M:Int),.slice (some ⟨gl,0,none⟩) M M,.slice (some ⟨gf,0,none⟩) M M,.int .i64 ((k:Int)+1),u11,u12,u13,u14,u15,u16,u17,u18,u19,u20,u21],[]⟩ w') :
  scL.wp SqP.prog Q ⟨#[.agg #[.int .i64 wd,.slice a cs.length cap],u1,u2,u3,u4,u5,.agg #[.int .i64 wd,.slice (some ⟨gc,0,none⟩) cs.length cs.length],.int .i64 (M:Int),.slice (some ⟨gl,0,none⟩) M M,.slice (some ⟨gf,0,none⟩) M M,.int .i64 ((k:Int)),u11,u12,u13,u14,u15,u16,u17,u18,u19,u20,u21],[]⟩ w:=by
 have bl:decide ((k:Int)<(M:Int))=true:=decide_eq_true qg
 have wk:IntKind.i64.wrap ((k:Int)+1)=(k:Int)+1:=IntWalk.i64_in _ qg
 have hgl:=(gei hL).1
 have hgf:=(gei hF).1
 have HL:Hid (w.heap[gl]?=some (.cells arrL 3)):=hL
 have HF:Hid (w.heap[gf]?=some (.cells arrF 26)):=hF
 clear hL hF
 unfold scL
 simp only[opr]
 go_wp2_with fail
 refine(zcv wd a cap cs w h hm k).mono ?_
 rintro e w1 ⟨rfl,hb1⟩
 obtain⟨lt,elt⟩:∃ lt,za0 wd cs (k:Int)=lt:=⟨_,rfl⟩
 rw[elt]
 have hL1:w1.heap[gl]?=some (.cells arrL 3):=(hb1.block gl hgl).trans HL.out
 have hF1:w1.heap[gf]?=some (.cells arrF 26):=(hb1.block gf hgf).trans HF.out
 have cl:w1.cell? ⟨gl,k,none⟩=some arrL[k]:=by rw[cell_of_row _ _ _ _ _ _ hL1];exact Array.getElem?_eq_getElem qg
 have fl:w1.frozen? ⟨gl,k,none⟩=false:=frozen_of_row _ _ _ _ _ hL1
 have hL2:(w1.setCell ⟨gl,k,none⟩ (.int .i64 lt)).heap[gl]?=some (.cells (arrL.setIfInBounds k (.int .i64 lt)) 3):=heap_setCell_same w1 gl k _ _ _ hL1
 have hF2:(w1.setCell ⟨gl,k,none⟩ (.int .i64 lt)).heap[gf]?=some (.cells arrF 26):=(Below.heap_setCell _ _ _ _ (fun e=>hlf e.symm)).trans hF1
 have hC2:zaf (w1.setCell ⟨gl,k,none⟩ (.int .i64 lt)) a cs:=by
  rcases h.below hb1 with q|⟨b,off,rfl,hbl,hc⟩
  ·exact .inl q
  ·refine .inr ⟨b,off,rfl,by simpa using hbl,fun i hi=>?_⟩
   have hne:=(hca b off rfl).1
   rw[World.cell?_of_block (w:=w1) (a:=⟨b,_,none⟩) (Below.heap_setCell _ _ _ _ hne),World.cell?_of_block (w:=w1) (a:=⟨b,_,none⟩) (Below.heap_setCell _ _ _ _ hne)]
   exact hc i hi
 have hT2:ziZ (w1.setCell ⟨gl,k,none⟩ (.int .i64 lt)) C:=⟨fun i q=>by rw[show (w1.setCell ⟨gl,k,none⟩ (.int .i64 lt)).tape=w1.tape from rfl,hb1.tape];exact hT.1 i q,hT.2⟩
 have hz1:=hb1.size
 have hfr2:∀ b,b<w.heap.size->b≠gl->(w1.setCell ⟨gl,k,none⟩ (.int .i64 lt)).heap[b]?=w.heap[b]?:=fun b hb hne=>(Below.heap_setCell _ _ _ _ hne).trans (hb1.block b hb)
 have hsz2:w1.heap.size<=(w1.setCell ⟨gl,k,none⟩ (.int .i64 lt)).heap.size:=qk
 go_wp2_with fail
 obtain⟨w2,hw2⟩:∃ w2,w2=w1.setCell ⟨gl,k,none⟩ (.int .i64 lt):=⟨_,rfl⟩
 have ho2:w2.os=w.os/\w2.tape=w.tape/\w2.output=w.output:=by rw[hw2];exact⟨hb1.os,hb1.tape,hb1.output⟩
 rw[<- hw2] at hL2 hF2 hC2 hT2 hfr2 hsz2 ⊢
 clear hw2 cl fl hL1 hF1 hb1 HL HF
 refine(zdf wd a cap cs w2 hC2 hm k).mono ?_
 rintro e w3 ⟨v,rfl,hZ,hrm,hb3⟩
 have hvs:∃ xa xn xc,v=.slice xa xn xc:=by
  rcases hZ with ⟨q,_⟩|⟨g,c,q,_⟩
  ·exact⟨_,_,_,q⟩
  ·exact⟨_,_,_,q⟩
 obtain⟨xa,xn,xc,rfl⟩:=hvs
 have hz3:=hb3.size
 have hL3:w3.heap[gl]?=some (.cells (arrL.setIfInBounds k (.int .i64 lt)) 3):=(hb3.block gl qg).trans hL2
 have hF3:w3.heap[gf]?=some (.cells arrF 26):=(hb3.block gf qg).trans hF2
 have cf:w3.cell? ⟨gf,k,none⟩=some arrF[k]:=by rw[cell_of_row _ _ _ _ _ _ hF3];exact Array.getElem?_eq_getElem qg
 have ff:w3.frozen? ⟨gf,k,none⟩=false:=frozen_of_row _ _ _ _ _ hF3
 have hL4:(w3.setCell ⟨gf,k,none⟩ (.slice xa xn xc)).heap[gl]?=some (.cells (arrL.setIfInBounds k (.int .i64 lt)) 3):=(Below.heap_setCell _ _ _ _ hlf).trans hL3
 have hF4:(w3.setCell ⟨gf,k,none⟩ (.slice xa xn xc)).heap[gf]?=some (.cells (arrF.setIfInBounds k (.slice xa xn xc)) 26):=heap_setCell_same w3 gf k _ _ _ hF3
 have hfr4:∀ b,b<w.heap.size->b≠gl->b≠gf->(w3.setCell ⟨gf,k,none⟩ (.slice xa xn xc)).heap[b]?=w.heap[b]?:=fun b hb h1 h2=>((Below.heap_setCell _ _ _ _ h2).trans (hb3.block b qg)).trans (hfr2 b hb h1)
 have hZ4:zdN (w3.setCell ⟨gf,k,none⟩ (.slice xa xn xc)) w.heap.size 3 (.slice xa xn xc) (zar wd cs k):=by
  rcases hZ with q|⟨g,c,q1,q2,q3,q4,q5,q6⟩
  ·exact .inl q
  ·exact .inr ⟨g,c,q1,qg,q3,q4,q5,(Below.heap_setCell _ _ _ _ (by show g≠gf;omega)).trans q6⟩
 have hrm4:=hrm C hT2 hlen
 have ho4:(w3.setCell ⟨gf,k,none⟩ (.slice xa xn xc)).os=w.os/\(w3.setCell ⟨gf,k,none⟩ (.slice xa xn xc)).tape=w.tape/\(w3.setCell ⟨gf,k,none⟩ (.slice xa xn xc)).output=w.output:=⟨hb3.os.trans ho2.1,hb3.tape.trans ho2.2.1,hb3.output.trans ho2.2.2⟩
 have hsz4:w.heap.size<=(w3.setCell ⟨gf,k,none⟩ (.slice xa xn xc)).heap.size:=ql
 subst elt
 clear hL3 hF3 hb3 hZ hrm
 go_wp2_with fail
 exact hK _ _ _ _ _ _ _ hZ4 hrm4 hL4 hF4 hfr4 hsz4 ho4
theorem zrh(wd:Int)(a:Option Addr)(cap:Nat)(cs:List (Int × Int))(w:World)(M gc gl gf:Nat)(u1 u2 u3 u4 u5 u11 u12 u13 u14 u15 u16 u17 u18 u19 u20 u21:Value){Q:Exit->Act->World->Prop}(hK:∀ u11,Q (.exit 1) ⟨#[.agg #[.int .i64 wd,.slice a cs.length cap],u1,u2,u3,u4,u5,.agg #[.int .i64 wd,.slice (some ⟨gc,0,none⟩) cs.length cs.length],.int .i64 (M:Int),.slice (some ⟨gl,0,none⟩) M M,.slice (some ⟨gf,0,none⟩) M M,.int .i64 ((M:Int)),u11,u12,u13,u14,u15,u16,u17,u18,u19,u20,u21],[]⟩ w) :
  scL.wp SqP.prog Q ⟨#[.agg #[.int .i64 wd,.slice a cs.length cap],u1,u2,u3,u4,u5,.agg #[.int .i64 wd,.slice (some ⟨gc,0,none⟩) cs.length cs.length],.int .i64 (M:Int),.slice (some ⟨gl,0,none⟩) M M,.slice (some ⟨gf,0,none⟩) M M,.int .i64 ((M:Int)),u11,u12,u13,u14,u15,u16,u17,u18,u19,u20,u21],[]⟩ w:=by
 have bl:decide ((M:Int)<(M:Int))=false:=decide_eq_false qg
 unfold scL
 simp only[opr]
 go_wp2_with fail
 exact hK _
theorem zqF(wd:Int)(a:Option Addr)(cap:Nat)(cs:List (Int × Int))(w:World)(h:zaf w a cs)(hm:cs.length<4611686018427387904)(hk:okG wd cs=true)(u1 u2 u3 u4 u5 u6 u7 u8 u9 u10 u11 u12 u13 u14 u15 u16 u17 u18 u19 u20 u21:Value){Q:Exit->Act->World->Prop}(hK:∀ w',Below w.heap.size w w'->Q .normal ⟨#[.agg #[.int .i64 wd,.slice a cs.length cap],u1,u2,.bool true,u4,u5,u6,u7,u8,u9,u10,u11,u12,u13,u14,u15,u16,u17,u18,u19,u20,u21],[]⟩ w') :
  scG.wp SqP.prog Q ⟨#[.agg #[.int .i64 wd,.slice a cs.length cap],u1,u2,u3,u4,u5,u6,u7,u8,u9,u10,u11,u12,u13,u14,u15,u16,u17,u18,u19,u20,u21],[]⟩ w:=by
 have HK:Hid (∀ w',Below w.heap.size w w'->Q .normal ⟨#[.agg #[.int .i64 wd,.slice a cs.length cap],u1,u2,.bool true,u4,u5,u6,u7,u8,u9,u10,u11,u12,u13,u14,u15,u16,u17,u18,u19,u20,u21],[]⟩ w'):=hK
 unfold scG
 simp only[opr]
 go_wp2_with fail
 refine(zbA _ _ _ cs _ h qg).mono ?_
 rintro e w2 ⟨rfl,hb2⟩
 rw[hk]
 go_wp2_with fail
 first|exact hb2|exact HK.out _ hb2
theorem zqE(wd:Int)(a:Option Addr)(cap:Nat)(cs:List (Int × Int))(w:World)(h:zaf w a cs)(hm:cs.length<=1048576)(hl:0<cs.length)(M:Nat)(hM:zbU wd cs=(M:Int))(hM20:M<=20)(u1 u2 u3 u4 u5 u6 u7 u8 u9 u10 u11 u12 u13 u14 u15 u16 u17 u18 u19 u20 u21:Value){Q:Exit->Act->World->Prop}(hK:∀(gc gl gf:Nat) (w':World),Own w' w.heap.size (.slice (some ⟨gc,0,none⟩) cs.length cs.length) cs->w'.heap[gl]?=some (.cells (madeCells #[.int .i64 0] M) 3)->w'.heap[gf]?=some (.cells (madeCells #[.slice none 0 0] M) 26)->w.heap.size<=gc->gc<gl->gl<gf->Below w.heap.size w w'->Q .normal ⟨#[.agg #[.int .i64 wd,.slice a cs.length cap],u1,u2,u3,u4,u5,.agg #[.int .i64 wd,.slice (some ⟨gc,0,none⟩) cs.length cs.length],.int .i64 (M:Int),.slice (some ⟨gl,0,none⟩) M M,.slice (some ⟨gf,0,none⟩) M M,.int .i64 (0),u11,u12,u13,u14,u15,u16,u17,u18,u19,u20,u21],[]⟩ w') :
  scA.wp SqP.prog Q ⟨#[.agg #[.int .i64 wd,.slice a cs.length cap],u1,u2,u3,u4,u5,u6,u7,u8,u9,u10,u11,u12,u13,u14,u15,u16,u17,u18,u19,u20,u21],[]⟩ w:=by
 have hmk:=(zku (aLt:=Sq.altP)) M qg
 have hmk2:=zgH M qg
 have HM:Hid (zbU wd cs=(M:Int)):=hM
 clear hM
 unfold scA
 simp only[opr]
 go_wp2_with fail
 refine(zeG wd a cap cs w h hm hl).mono ?_
 rintro e w1 ⟨gc,rfl,hO1,hb1⟩
 have hz1:=hb1.size
 have hgc:=hO1.lt
 go_wp2_with fail
 refine(zcT wd a cap cs w1 (h.below hb1) hm).mono ?_
 rintro e w2 ⟨rfl,hb2⟩
 rw[HM.out]
 have hz2:=hb2.size
 have hB2:=zai hb1 hz1 hb2
 have hO2:=hO1.below hb2
 go_wp2_with fail
 have hbA:Below w2.heap.size w2 ((w2.alloc (.cells (madeCells #[.int .i64 0] M) 3)).alloc (.cells (madeCells #[.slice none 0 0] M) 26)):=bel
 refine hK gc w2.heap.size (w2.heap.size+1) _ (hO2.below hbA) ?_ ?_ hgc.1 qg qg (zai hB2 hB2.size hbA)
 ·rw[Below.heap_alloc _ _ _ qk]
  exact heap_alloc_new w2 _
 ·have:=heap_alloc_new (w2.alloc (.cells (madeCells #[.int .i64 0] M) 3)) (.cells (madeCells #[.slice none 0 0] M) 26)
  simpa using this
theorem zr3(wd:Int)(a:Option Addr)(cap:Nat)(cs:List (Int × Int))(w:World)(M gc gl gf:Nat)(u1 u2 u3 u4 u5 u11 u12 u13 u14 u15 u16 u17 u18 u19 u20 u21:Value){Q:Exit->Act->World->Prop}(hK:∀(a':Act) (w':World),a'.defers=[]->Below w.heap.size w w'->(results (zlM Tryz.f22) a'.tmps).run SqP.prog w'=.ok (.tuple #[.agg #[.int .i64 wd,.slice (some ⟨gc,0,none⟩) cs.length cs.length,.slice (some ⟨gl,0,none⟩) M M,.slice (some ⟨gf,0,none⟩) M M],.bool true]) w'->Q .ret a' w') :
  (Code.seq scZ .ret).wp SqP.prog Q ⟨#[.agg #[.int .i64 wd,.slice a cs.length cap],u1,u2,u3,u4,u5,.agg #[.int .i64 wd,.slice (some ⟨gc,0,none⟩) cs.length cs.length],.int .i64 (M:Int),.slice (some ⟨gl,0,none⟩) M M,.slice (some ⟨gf,0,none⟩) M M,.int .i64 ((M:Int)),u11,u12,u13,u14,u15,u16,u17,u18,u19,u20,u21],[]⟩ w:=by
 unfold scZ
 simp only[opr]
 go_wp2_with fail
 refine hK _ _ rfl bel ?_
 simp[results,SqP.results22,results22,go_sem]
structure ScA(w0 w:World)(wd:Int)(cs:List (Int × Int))(M gc bl bf k:Nat)(arrL arrF:Array Value)(xs:Nat->Value):Prop where
 below:Below w0.heap.size w0 w
 grid:Own w w0.heap.size (.slice (some ⟨gc,0,none⟩) cs.length cs.length) cs
 lights:w.heap[bl]?=some (.cells arrL 3)
 feet:w.heap[bf]?=some (.cells arrF 26)
 sizeL:arrL.size=M
 sizeF:arrF.size=M
 atL:∀ j,j<k->arrL[j]?=some (.int .i64 (za0 wd cs (j:Int)))
 atF:∀ j,j<k->arrF[j]?=some (xs j)
 lt:w0.heap.size<=gc/\gc<bl/\bl<bf
 row:∀ j,j<k->zdN w w0.heap.size 3 (xs j) (zar wd cs (j:Int))
 apart:∀ j,j<k->∀ b,(xs j).ownBlock=some b->bf<b
 once:∀ j j' b,j<k->j'<k->(xs j).ownBlock=some b->(xs j').ownBlock=some b->j=j'
theorem znO{w:World}{x:Value}(h:zdN w B e x xs)(hk:∀ b,x.ownBlock=some b->w'.heap[b]?=w.heap[b]?):zdN w' B e x xs:=by
 rcases h with q|⟨g,cap,rfl,q2,q3,q4,q5,q6⟩
 ·exact .inl q
 ·exact .inr ⟨g,cap,rfl,q2,q3,q4,q5,(hk g rfl).trans q6⟩
theorem ScA.next{w0 w:World}{M gc bl bf k:Nat}{xs:Nat->Value}(hI:ScA w0 w wd cs M gc bl bf k arrL arrF xs)(hkM:k<M)(hZ:zdN w' w.heap.size 3 v (zar wd cs (k:Int)))(hL:w'.heap[bl]?=some (.cells (arrL.setIfInBounds k (.int .i64 (za0 wd cs (k:Int)))) 3))(hF:w'.heap[bf]?=some (.cells (arrF.setIfInBounds k v) 26))(hfr:∀ b,b<w.heap.size->b≠bl->b≠bf->w'.heap[b]?=w.heap[b]?)(hsz:w.heap.size<=w'.heap.size)(ho:w'.os=w.os/\w'.tape=w.tape/\w'.output=w.output) :
  ScA w0 w' wd cs M gc bl bf (k+1) (arrL.setIfInBounds k (.int .i64 (za0 wd cs (k:Int)))) (arrF.setIfInBounds k v) (fun j=>if j=k then v else xs j):=by
 have hz0':=hI.below.size
 have hlt:=hI.lt
 have hbl:=(gei hI.lights).1
 have hbf:=(gei hI.feet).1
 have hrow:∀ j,j<k->∀ b,(xs j).ownBlock=some b->b<w.heap.size:=fun j hj b hb=>((hI.row j hj).ownBlock b hb).2
 have hnew:∀ b,v.ownBlock=some b->w.heap.size<=b:=fun b hb=>(hZ.ownBlock b hb).1
 have hgc:=hI.grid.lt
 refine⟨⟨ho.1.trans hI.below.os,ho.2.1.trans hI.below.tape,ho.2.2.trans hI.below.output,Nat.le_trans hz0' hsz,fun b hb=>?_⟩,?_,hL,hF,by simpa using hI.sizeL,by simpa using hI.sizeF,fun j hj=>?_,fun j hj=>?_,hlt,fun j hj=>?_,fun j hj b hb=>?_,fun j j' b hj hj' hb hb'=>?_⟩
 ·exact(hfr b qg qg qg).trans (hI.below.block b hb)
 ·obtain⟨g1,g2⟩:=hI.grid
  refine⟨g1,?_⟩
  rcases g2 with g2|⟨g,cp,cur,q1,q2,q3,q4⟩
  ·exact .inl g2
  ·have e:gc=g:=by simp only[Value.slice.injEq,Option.some.injEq,Addr.mk.injEq] at q1;exact q1.1.1
   subst e
   exact .inr ⟨gc,cp,cur,q1,q2,(hfr gc qg qg qg).trans q3,q4⟩
 ·by_cases q:j=k
  ·subst q
   rw[Array.getElem?_setIfInBounds_self_of_lt (by rw[hI.sizeL];exact hkM)]
  ·rw[Array.getElem?_setIfInBounds_ne (Ne.symm q)]
   exact hI.atL j qg
 ·by_cases q:j=k
  ·subst q
   rw[Array.getElem?_setIfInBounds_self_of_lt (by rw[hI.sizeF];exact hkM),if_pos rfl]
  ·rw[Array.getElem?_setIfInBounds_ne (Ne.symm q),if_neg q]
   exact hI.atF j qg
 ·by_cases q:j=k
  ·subst q
   rw[if_pos rfl]
   exact hZ.mono hz0'
  ·rw[if_neg q]
   refine znO (hI.row j qg) (fun b hb=>hfr b (hrow j qg b hb) ?_ ?_)
   ·have:=hI.apart j qg b hb;omega
   ·have:=hI.apart j qg b hb;omega
 ·by_cases q:j=k
  ·rw[if_pos q] at hb
   have:=hnew b hb
   omega
  ·rw[if_neg q] at hb
   exact hI.apart j qg b hb
 ·by_cases q:j=k
  ·by_cases q':j'=k
   ·omega
   ·rw[if_pos q] at hb
    rw[if_neg q'] at hb'
    have:=hnew b hb
    have:=hrow j' qg b hb'
    omega
  ·by_cases q':j'=k
   ·rw[if_neg q] at hb
    rw[if_pos q'] at hb'
    have:=hnew b hb'
    have:=hrow j qg b hb
    omega
   ·rw[if_neg q] at hb
    rw[if_neg q'] at hb'
    exact hI.once j j' b qg qg hb hb'
theorem ScA.same{w0 w:World}{M gc bl bf k:Nat}{xs:Nat->Value}(h:ScA w0 w wd cs M gc bl bf k arrL arrF xs)(hb5:Below w.heap.size w w'):ScA w0 w' wd cs M gc bl bf k arrL arrF xs:=by
 have hkeep:∀ b o,w.heap[b]?=some o->w'.heap[b]?=some o:=fun b o q=>(hb5.block b (gei q).1).trans q
 exact⟨zai h.below h.below.size hb5,h.grid.below hb5,hkeep _ _ h.lights,hkeep _ _ h.feet,h.sizeL,h.sizeF,h.atL,h.atF,h.lt,fun j hj=>(h.row j hj).below hb5,h.apart,h.once⟩
theorem znU(wd:Int)(a:Option Addr)(cap:Nat)(cs:List (Int × Int))(w:World)(h:zaf w a cs)(hm:cs.length<=25)(hl:0<cs.length)(hk:okG wd cs=true)(M:Nat)(hM:zbU wd cs=(M:Int))(hM20:M<=20) :
  Calls SqP.prog 22 #[.agg #[.int .i64 wd,.slice a cs.length cap]] w fun e w'=>∃ gc bl bf arrL arrF xs,e=.returned (.tuple #[.agg #[.int .i64 wd,.slice (some ⟨gc,0,none⟩) cs.length cs.length,.slice (some ⟨bl,0,none⟩) M M,.slice (some ⟨bf,0,none⟩) M M],.bool true])/\ScA w w' wd cs M gc bl bf M arrL arrF xs:=by
 have hca:∀ b off,a=some ⟨b,off,none⟩->b<w.heap.size:=by
  intro b off e
  rcases h with q|⟨b',off',e',hbl',_⟩
  ·rw[q] at hl;simp at hl
  ·rw[e] at e'
   simp only[Option.some.injEq,Addr.mk.injEq] at e'
   omega
 have HCA:Hid (∀ b off,a=some ⟨b,off,none⟩->b<w.heap.size):=hca
 clear hca
 go_enter SqP.func22,SqP.ntmps22
 unfold zqV
 refine wp_seq (zqW wd a cap cs w h qg fun w1 u1 u2 u3 u4 u5 u6 u7 u8 u9 u10 u11 u12 u13 u14 u15 u16 u17 u18 u19 u20 u21 hb1=>wp_skip ?_)
 show Code.wp _ _ _ _ _
 unfold zgK
 refine wp_seq (zqF wd a cap cs w1 (h.below hb1) qg hk _ _ _ _ _ _ _ _ _ _ _ _ _ _ _ _ _ _ _ _ _ fun w2 hb2=>?_)
 have hB2:=zai hb1 hb1.size hb2
 show Code.wp _ _ _ _ _
 refine wp_seq (wp_cond (t:=true) rfl (wp_skip ?_))
 show Code.wp _ _ _ _ _
 refine wp_seq (zqE wd a cap cs w2 (h.below hB2) qg hl M hM hM20 _ _ _ _ _ _ _ _ _ _ _ _ _ _ _ _ _ _ _ _ _ fun gc bl bf w3 hO hL hF q1 q2 q3 hb3=>?_)
 have hB3:=zai hB2 hB2.size hb3
 have hz2:=hB2.size
 have hI:ScA w w3 wd cs M gc bl bf 0 (madeCells #[.int .i64 0] M) (madeCells #[.slice none 0 0] M) (fun _=>.slice none 0 0):=⟨hB3,hO.mono qg,hL,hF,by simp[madeCells],by simp[madeCells],fun j hj=>qg,fun j hj=>qg,⟨qg,q2,q3⟩,fun j hj=>qg,fun j hj=>qg,fun j j' b hj=>qg⟩
 show Code.wp _ _ _ _ _
 unfold scL
 simp only[opr]
 go_wp2_with fail
 go_loopw [10,11,12,13,14,15] (fun kk _ _ _ _ _ wr=>∃ (k:Nat) (arrL arrF:Array Value) (xs:Nat->Value),k<=M/\kk=.int .i64 k/\ScA w wr wd cs M gc bl bf k arrL arrF xs) (fun kk _ _ _ _ _ _=>M - (intOf kk).toNat)
 case atStart=>exact⟨0,_,_,_,Nat.zero_le _,rfl,hI⟩
 case round =>
  rename World=>wo
  obtain⟨k,arrL,arrF,xs,hkM',rfl,hI⟩:=hrel
  by_cases hkM:k<M
  ·have bl1:decide ((k:Int)<(M:Int))=true:=decide_eq_true qg
   have wk:IntKind.i64.wrap ((k:Int)+1)=(k:Int)+1:=IntWalk.i64_in _ qg
   have hlt:=hI.lt
   have hlf:bl≠bf:=qg
   have hCo:zaf wo a cs:=h.below hI.below
   have hcn:∀ b off,a=some ⟨b,off,none⟩->b≠bl/\b≠bf:=fun b off e=>by have:=HCA.out b off e;omega
   have HL:=(show Hid (wo.heap[bl]?=some (.cells arrL 3)) from hI.lights)
   have HF:=(show Hid (wo.heap[bf]?=some (.cells arrF 26)) from hI.feet)
   have hgl:=(gei hI.lights).1
   have hgf:=(gei hI.feet).1
   have hLs:=hI.sizeL
   have hFs:=hI.sizeF
   have HI:Hid (ScA w wo wd cs M gc bl bf k arrL arrF xs):=hI
   clear hI
   go_wp2_with fail
   refine(zcv wd a cap cs wo hCo qg k).mono ?_
   rintro e w1 ⟨rfl,hb1⟩
   obtain⟨lt,elt⟩:∃ lt,za0 wd cs (k:Int)=lt:=⟨_,rfl⟩
   rw[elt]
   have hL1:w1.heap[bl]?=some (.cells arrL 3):=(hb1.block bl hgl).trans HL.out
   have hF1:w1.heap[bf]?=some (.cells arrF 26):=(hb1.block bf hgf).trans HF.out
   have cl:w1.cell? ⟨bl,k,none⟩=some arrL[k]:=by rw[cell_of_row _ _ _ _ _ _ hL1];exact Array.getElem?_eq_getElem qg
   have fl:w1.frozen? ⟨bl,k,none⟩=false:=frozen_of_row _ _ _ _ _ hL1
   have hL2:(w1.setCell ⟨bl,k,none⟩ (.int .i64 lt)).heap[bl]?=some (.cells (arrL.setIfInBounds k (.int .i64 lt)) 3):=heap_setCell_same w1 bl k _ _ _ hL1
   have hF2:(w1.setCell ⟨bl,k,none⟩ (.int .i64 lt)).heap[bf]?=some (.cells arrF 26):=(Below.heap_setCell _ _ _ _ (fun e=>hlf e.symm)).trans hF1
   have hC2:zaf (w1.setCell ⟨bl,k,none⟩ (.int .i64 lt)) a cs:=by
    rcases hCo.below hb1 with q|⟨b,off,rfl,hbl,hc⟩
    ·exact .inl q
    ·refine .inr ⟨b,off,rfl,by simpa using hbl,fun i hi=>?_⟩
     have hne:=(hcn b off rfl).1
     rw[World.cell?_of_block (w:=w1) (a:=⟨b,_,none⟩) (Below.heap_setCell _ _ _ _ hne),World.cell?_of_block (w:=w1) (a:=⟨b,_,none⟩) (Below.heap_setCell _ _ _ _ hne)]
     exact hc i hi
   have hz1:=hb1.size
   have hfr2:∀ b,b<wo.heap.size->b≠bl->(w1.setCell ⟨bl,k,none⟩ (.int .i64 lt)).heap[b]?=wo.heap[b]?:=fun b hb hne=>(Below.heap_setCell _ _ _ _ hne).trans (hb1.block b hb)
   have hsz2:w1.heap.size<=(w1.setCell ⟨bl,k,none⟩ (.int .i64 lt)).heap.size:=qk
   go_wp2_with fail
   obtain⟨w2,hw2⟩:∃ w2,w2=w1.setCell ⟨bl,k,none⟩ (.int .i64 lt):=⟨_,rfl⟩
   have ho2:w2.os=wo.os/\w2.tape=wo.tape/\w2.output=wo.output:=by rw[hw2];exact⟨hb1.os,hb1.tape,hb1.output⟩
   rw[<- hw2] at hL2 hF2 hC2 hfr2 hsz2 ⊢
   clear hw2 cl fl hL1 hF1 hb1 HL HF
   refine(zdf wd a cap cs w2 hC2 qg k).mono ?_
   rintro e w3 ⟨v,rfl,hZ,hrm,hb3⟩
   have hvs:∃ xa xn xc,v=.slice xa xn xc:=by
    rcases hZ with ⟨q,_⟩|⟨g,c,q,_⟩
    ·exact⟨_,_,_,q⟩
    ·exact⟨_,_,_,q⟩
   obtain⟨xa,xn,xc,rfl⟩:=hvs
   have hz3:=hb3.size
   have hL3:w3.heap[bl]?=some (.cells (arrL.setIfInBounds k (.int .i64 lt)) 3):=(hb3.block bl qg).trans hL2
   have hF3:w3.heap[bf]?=some (.cells arrF 26):=(hb3.block bf qg).trans hF2
   have cf:w3.cell? ⟨bf,k,none⟩=some arrF[k]:=by rw[cell_of_row _ _ _ _ _ _ hF3];exact Array.getElem?_eq_getElem qg
   have ff:w3.frozen? ⟨bf,k,none⟩=false:=frozen_of_row _ _ _ _ _ hF3
   have hL4:(w3.setCell ⟨bf,k,none⟩ (.slice xa xn xc)).heap[bl]?=some (.cells (arrL.setIfInBounds k (.int .i64 lt)) 3):=(Below.heap_setCell _ _ _ _ hlf).trans hL3
   have hF4:(w3.setCell ⟨bf,k,none⟩ (.slice xa xn xc)).heap[bf]?=some (.cells (arrF.setIfInBounds k (.slice xa xn xc)) 26):=heap_setCell_same w3 bf k _ _ _ hF3
   have hfr4:∀ b,b<wo.heap.size->b≠bl->b≠bf->(w3.setCell ⟨bf,k,none⟩ (.slice xa xn xc)).heap[b]?=wo.heap[b]?:=fun b hb h1 h2=>((Below.heap_setCell _ _ _ _ h2).trans (hb3.block b qg)).trans (hfr2 b hb h1)
   have hZ4:zdN (w3.setCell ⟨bf,k,none⟩ (.slice xa xn xc)) wo.heap.size 3 (.slice xa xn xc) (zar wd cs k):=by
    rcases hZ with q|⟨g,c,q1,q2,q3,q4,q5,q6⟩
    ·exact .inl q
    ·exact .inr ⟨g,c,q1,qg,q3,q4,q5,(Below.heap_setCell _ _ _ _ (by show g≠bf;omega)).trans q6⟩
   have ho4:(w3.setCell ⟨bf,k,none⟩ (.slice xa xn xc)).os=wo.os/\(w3.setCell ⟨bf,k,none⟩ (.slice xa xn xc)).tape=wo.tape/\(w3.setCell ⟨bf,k,none⟩ (.slice xa xn xc)).output=wo.output:=⟨hb3.os.trans ho2.1,hb3.tape.trans ho2.2.1,hb3.output.trans ho2.2.2⟩
   have hsz4:wo.heap.size<=(w3.setCell ⟨bf,k,none⟩ (.slice xa xn xc)).heap.size:=ql
   subst elt
   clear hL3 hF3 hb3 hZ hrm
   go_wp2_with fail
   have hnx:=HI.out.next hkM hZ4 hL4 hF4 hfr4 hsz4 ho4
   clear hL4 hF4 hfr4 hsz4 ho4 hZ4 HI
   go_roundw
   case rel=>exact⟨k+1,_,_,_,qg,by go_num,hnx⟩
   case measure=>exact qe
  ·have hkM2:k=M:=qg
   subst hkM2
   have bl1:decide ((k:Int)<(k:Int))=false:=decide_eq_false qg
   go_wp2_with fail
   unfold scZ
   simp only[opr]
   go_wp2_with fail
   refine bodyPost_ret (v:=.tuple #[.agg #[.int .i64 wd,.slice (some ⟨gc,0,none⟩) cs.length cs.length,.slice (some ⟨bl,0,none⟩) k k,.slice (some ⟨bf,0,none⟩) k k],.bool true]) (by simp[results,SqP.results22,results22,go_sem]) rfl ⟨gc,bl,bf,arrL,arrF,xs,rfl,hI.same bel⟩
