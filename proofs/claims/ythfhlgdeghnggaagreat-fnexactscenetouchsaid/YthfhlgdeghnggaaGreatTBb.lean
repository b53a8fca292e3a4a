/- Part. -/
import Derived.Test.YthfhlgdeghnggaaGreatTAy
set_option maxHeartbeats 4000000
set_option linter.unusedVariables false
namespace Go.Proofs.YthfhlgdeghnggaaGreat
variable{xs:List Int}{B:Nat}{e:TypeId}{v:Value}
section
open Go Go.RowKit
set_option linter.unusedSimpArgs false
def zea(xs:List Int):List Value:=xs.map fun x=>.int .i64 x
def zgu(xs:List Int)(cap:Nat):Array Value:=(zea xs).toArray++Array.replicate (cap - xs.length) (.int .i64 0)
theorem znZ(xs:List Int):(zea xs).length=xs.length:=by simp[zea]
theorem zgt(xs:List Int)(cap:Nat)(h:xs.length<=cap):(zgu xs cap).size=cap:=by simp[zgu,zea];omega
def zbK:Value->Nat
 | .slice _ _ c=>c
 | _=>0
def zdL(w:World)(B:Nat)(e:TypeId)(v:Value)(xs:List Int):Prop :=
 (v=.slice none 0 0/\xs=[])\/∃ g cap,v=.slice (some ⟨g,0,none⟩) xs.length cap/\B<=g/\0<xs.length/\xs.length<=cap/\cap<=maxLen/\w.heap[g]?=some (.cells (zgu xs cap) e)
theorem zdL.below{w w':World}(h:zdL w B e v xs)(hb:Below w.heap.size w w'):zdL w' B e v xs:=by
 rcases h with h|⟨g,cap,h1,h2,h3,h4,h5,h6⟩
 ·exact .inl h
 ·exact .inr ⟨g,cap,h1,h2,h3,h4,h5,(hb.block g (gei h6).1).trans h6⟩
theorem zdL.mono{w:World}{B':Nat}(h:zdL w B e v xs)(hB:B'<=B):zdL w B' e v xs:=by
 rcases h with h|⟨g,cap,h1,h2,h3⟩
 ·exact .inl h
 ·exact .inr ⟨g,cap,h1,by omega,h3⟩
theorem zdL.own{w:World}(h:zdL w B e v xs):w.ownsRow B e 1 v xs.length (zea xs):=by
 rcases h with ⟨rfl,rfl⟩|⟨g,cap,rfl,h2,h3,h4,h5,h6⟩
 ·exact World.ownsRow_nil _ _ _ _
 ·refine⟨by simp[zea],.inr ⟨g,cap,_,rfl,h2,h6,h4,h5,by rw[zgt _ _ h4];omega,?_⟩⟩
  simp[zgu,zea]
theorem zdL.ownBlock{w:World}(h:zdL w B e v xs):∀ k,v.ownBlock=some k->B<=k/\k<w.heap.size:=h.own.lt
theorem zev(n:Nat):Builtin.zeroCells (Value.int .i64 0).cells n=Array.replicate n (.int .i64 0):=by
 apply Array.ext
 ·simp[Builtin.zeroCells,Value.cells]
 ·intro i h1 h2
  simp[Builtin.zeroCells,Value.cells,Nat.mod_one]
theorem zne{w:World}{need C:Nat}{old:Nat}(h:∀ i q,w.tape i q=C - 1)(h1:1<=C)(h2:C<=maxLen):grownCap w 1 old e=C:=by
 unfold grownCap Question.cut
 rw[h]
 unfold maxLen at h2
 simp only
 rw[Nat.mod_eq_of_lt (by omega)]
 omega
section
variable{P:Program}(w:World)
theorem ziV(t ty:TypeId)(B:Nat)(e:TypeId)(i:TypeInfo)(ht:P.underlying t=some (.slice e))(hi:P.info? e=some i)(hz:i.zero=some (.int .i64 0))(hsize:i.size=1)(hby:i.bytes=8)(v:Value)(xs:List Int)(hR:zdL w B e v xs)(ad:Addr)(c:Nat)(k:Int)(hk:w.cell? ad=some (.int .i64 k))(hxs:xs.length<=1000)(hB:B<=w.heap.size)(H:Nat)(hH:w.heap.size=H) :
  ∃ g cap w',(Builtin.append_ #[t,t] ty #[v,.slice (some ad) 1 c]).run P w=.ok (.slice (some ⟨g,0,none⟩) (xs.length+1) cap) w'/\zdL w' B e (.slice (some ⟨g,0,none⟩) (xs.length+1) cap) (xs++[k])/\w.grownBy w' v.ownBlock/\(v.ownBlock=some g\/g=H)/\g<w'.heap.size /\
   (∀ C,(∀ i q,w.tape i q=C - 1)->1<=C->C<=maxLen->xs.length+1<=C->(v=.slice none 0 0\/zbK v=C)->cap=C):=by
 have hnews:∀ j u,([.int .i64 k]:List Value)[j]?=some u->w.cell? (ad.add j)=some u:=by
  intro j u hj
  cases j with
  | zero =>
   rw[show ad.add 0=ad by unfold Addr.add;split <;> simp_all,hk]
   simpa using hj
  | succ j=>simp at hj
 rcases hR with ⟨rfl,rfl⟩|⟨g,cap,rfl,h2,h3,h4,h5,h6⟩
 ·have hr:=run_append_nil (P:=P) w t ty e i (.int .i64 0) ht hi hz ad 1 c [.int .i64 k] (by rw[hsize];rfl) hnews (by omega) (by omega) (by rw[hby];omega)
  have hge:=grownCap_ge w 1 0 e
  have hle:=grownCap_le_maxLen w 1 0 e (by unfold maxLen;omega)
  refine⟨w.heap.size,grownCap w 1 0 e,_,hr,.inr ⟨w.heap.size,grownCap w 1 0 e,rfl,hB,by simp,by simpa using hge,hle,?_⟩,?_,.inr hH,by simp,?_⟩
  ·have e1:(#[Value.int .i64 k]++Builtin.zeroCells (Value.int .i64 0).cells (grownCap w 1 0 e - 1))=zgu ([]++[k]) (grownCap w 1 0 e):=by
    rw[zev]
    rfl
   rw[show ([Value.int .i64 k]:List Value).toArray=#[Value.int .i64 k] from rfl,e1]
   exact heap_alloc_new w.drew _
  ·exact⟨rfl,rfl,rfl,by simp,fun j hj _=>by show (w.heap.push _)[j]?=w.heap[j]?;rw[Array.getElem?_push,if_neg (Nat.ne_of_lt hj)]⟩
  ·intro C hC h1 h2 _ _
   exact zne (need:=1) hC h1 h2
 ·by_cases hroom:xs.length+1<=cap
  ·have hr:=run_append_room (P:=P) w t ty e i ht hi g xs.length cap (zgu xs cap) h6 ad 1 c [.int .i64 k] (by rw[hsize];rfl) hnews (by simp[Value.oneCell']) hroom (by rw[hsize,zgt _ _ h4];simp;omega)
   have e1:((zgu xs cap).toList.take (xs.length * i.size)++[Value.int .i64 k]++(zgu xs cap).toList.drop (xs.length * i.size+([Value.int .i64 k]:List Value).length)).toArray=zgu (xs++[k]) cap:=by
    rw[hsize,Nat.mul_one]
    apply Array.ext'
    have:cap - xs.length=(cap - (xs.length+1))+1:=by omega
    simp only[zgu,zea,Array.toList_append,List.toList_toArray,Array.toList_replicate,this,List.length_append,List.length_cons,List.length_nil,List.map_append,List.map_cons,List.map_nil]
    rw[List.take_left' (by simp),List.replicate_succ,List.drop_append]
    simp
   rw[e1] at hr
   refine⟨g,cap,_,hr,.inr ⟨g,cap,by simp,h2,by simp,by simpa using hroom,h5,setRow_heap w g _ _ e _ h6⟩,?_,.inl rfl,?_,?_⟩
   ·exact⟨rfl,rfl,rfl,by simp[World.setRow],fun j hj hne=>setRow_other w g j _ (fun q=>hne (by simp[Value.ownBlock,q]))⟩
   ·have:=(gei h6).1
    simpa [World.setRow] using this
   ·intro C _ _ _ _ q
    rcases q with q|q
    ·cases q
    ·exact q
  ·have hcap:cap=xs.length:=by omega
   subst hcap
   have hlo:∀ j u,(zea xs)[j]?=some u->w.cell? ((⟨g,0,none⟩:Addr).add j)=some u:=by
    intro j u hj
    have hO:=(show zdL w B e (.slice (some ⟨g,0,none⟩) xs.length xs.length) xs from .inr ⟨g,xs.length,rfl,h2,h3,h4,h5,h6⟩).own
    exact hO.cells rfl j u hj
   have hr:=run_append_grow (P:=P) w t ty e i (.int .i64 0) ht hi hz ⟨g,0,none⟩ xs.length xs.length (zea xs) (by rw[hsize,znZ];omega) hlo ad 1 c [.int .i64 k] (by rw[hsize];rfl) hnews (by omega) (by omega) (growslice_fits_succ (by rw[hby];omega) (by rw[hby];omega))
   have hge:=grownCap_ge w (xs.length+1) xs.length e
   have hle:=grownCap_le_maxLen w (xs.length+1) xs.length e (by unfold maxLen;omega)
   refine⟨w.heap.size,grownCap w (xs.length+1) xs.length e,_,hr,.inr ⟨w.heap.size,_,by simp,hB,by simp,by simpa using hge,hle,?_⟩,?_,.inr hH,by simp,?_⟩
   ·have e1:(zea xs).toArray++([Value.int .i64 k]:List Value).toArray++Builtin.zeroCells (Value.int .i64 0).cells (grownCap w (xs.length+1) xs.length e - (xs.length+1))=zgu (xs++[k]) (grownCap w (xs.length+1) xs.length e):=by
     rw[zev]
     simp[zgu,zea]
    rw[e1]
    exact heap_alloc_new w.drew _
   ·exact⟨rfl,rfl,rfl,by simp,fun j hj _=>by show (w.heap.push _)[j]?=w.heap[j]?;rw[Array.getElem?_push,if_neg (Nat.ne_of_lt hj)]⟩
   ·intro C _ _ _ hl q
    rcases q with q|q
    ·cases q
    ·simp only[zbK] at q
     omega
theorem zgr{ops:Array Oper}{rest:List Oper}{o:Oper}{a:Act}{Q:Exit->Act->World->Prop}(hgd:o.guard=none)(s x:Operand)(t:TypeId)(ho:o.op=.call { callee:=.builtin .append,args:=#[s,x],argTypes:=#[t,t] })(B:Nat)(e:TypeId)(i:TypeInfo)(ht:P.underlying t=some (.slice e))(hi:P.info? e=some i)(hz:i.zero=some (.int .i64 0))(hsize:i.size=1)(hby:i.bytes=8)(v:Value)(xs:List Int)(hs:a.eval s=v)(hR:zdL w B e v xs)(ad:Addr)(c:Nat)(k:Int)(hx:a.eval x=.slice (some ad) 1 c)(hk:w.cell? ad=some (.int .i64 k))(hxs:xs.length<=1000)(hB:B<=w.heap.size)(H:Nat)(hH:w.heap.size=H)(h:∀ g cap w',zdL w' B e (.slice (some ⟨g,0,none⟩) (xs.length+1) cap) (xs++[k])->w.grownBy w' v.ownBlock->(v.ownBlock=some g\/g=H)->g<w'.heap.size->(∀ C,(∀ i q,w.tape i q=C - 1)->1<=C->C<=maxLen->xs.length+1<=C->(v=.slice none 0 0\/zbK v=C)->cap=C)->wpList P ops Q rest (a.put o.dst (.slice (some ⟨g,0,none⟩) (xs.length+1) cap)) w'):wpList P ops Q (o::rest) a w :=
 wpList_plain hgd fun _ hK=>by
  obtain⟨g,cap,w',hr,h2,h3,h4,h5,h6⟩:=ziV (P:=P) w t o.type B e i ht hi hz hsize hby v xs hR ad c k hk hxs hB H hH
  unfold Oper.wp execOp
  simp only[ho,resolve,invoke,builtin,Sem.run_bind,Sem.run_pure,Result.andThen_ok,List.map_toArray,List.map_cons,List.map_nil,hs,hx,hr]
  exact hK _ _ (h g cap w' h2 h3 h4 h5 h6)
end
end
namespace Sp
variable{aLt:Nat->Func->Func}
open Go.RowKit
attribute [local go_sem ↓] Go.wp_at_zero Go.wp_at_succ
def zjp(w:World)(C:Nat):Prop:=(∀ i q,w.tape i q=C - 1)/\1<=C/\C<=maxLen
theorem znt(vs:List (Int × Int × Int))(i j:Nat)(h:i<=j):(zaM i vs).length<=(zaM j vs).length:=by
 obtain⟨m,rfl⟩:∃ m,j=i+m:=⟨j - i,by omega⟩
 induction m with
 | zero=>exact Nat.le_refl _
 | succ m ih =>
  have hs:=zdY vs (i+m)
  have h1:=ih (by omega)
  rw[<- Nat.add_assoc,hs]
  by_cases q:seenAt vs (i+m)=true
  ·rw[if_pos q];simp;omega
  ·rw[if_neg q];exact h1
set_option maxRecDepth 20000 in
theorem zeA(wd:Int)(a:Option Addr)(cap:Nat)(cs:List (Int × Int))(w:World)(h:zak w a cs)(hm:cs.length<=1048576)(k:Int) :
  Calls (SqG.prog aLt) 67 #[.agg #[.int .i64 wd,.slice a cs.length cap],.int .i64 k] w fun e w'=>∃ v,e=.returned v/\zdL w' w.heap.size 3 v (zaL wd cs k)/\(∀ C,zjp w C->(zaL wd cs k).length<=C->v=.slice none 0 0\/zbK v=C)/\Below w.heap.size w w':=by
 obtain⟨i0,hi,iz0,iz1,iz2⟩:=info_parts (zkM (aLt:=aLt))
 obtain⟨L,hL⟩:∃ L,zaU wd cs k=L:=⟨_,rfl⟩
 obtain⟨hP,hln,h25,_⟩:=zeV hL
 obtain⟨vs,hes⟩:∃ vs,L.1=vs:=⟨_,rfl⟩
 rw[hes] at hP hln h25
 have HF:Hid (zaL wd cs k=zaM 25 vs):=by
  show _=_
  unfold zaL
  rw[hL,hes]
  by_cases e:vs=[]
  ·subst e
   rw[zil,zil]
  ·exact(zrx cs.length vs (h25 e) hP).symm
 rw[HF.out]
 have HP:Hid (∀ u∈vs,0<=u.1/\u.1<25):=fun u hu=>by
  have q1:=hP u hu
  have q2:=h25 (fun z=>by rw[z] at hu;simp at hu)
  omega
 have HL:Hid (zaU wd cs k=L):=hL
 have HES:Hid (L.1=vs):=hes
 obtain⟨u,hu⟩:∃ u,u=(w.alloc (.cells #[.int .i64 wd,.slice a cs.length cap] 33)).alloc (.cells #[.bool false,.bool false,.bool false,.bool false,.bool false,.bool false,.bool false,.bool false,.bool false,.bool false,.bool false,.bool false,.bool false,.bool false,.bool false,.bool false,.bool false,.bool false,.bool false,.bool false,.bool false,.bool false,.bool false,.bool false,.bool false] 120):=⟨_,rfl⟩
 have hbU:Below w.heap.size w u:=by rw[hu];exact bel
 have hV0:BkB u (w.heap.size+1) (fun _=>false):=by rw[hu];exact zcX _ _ _ (by simp)
 have hC:=h.below hbU
 have zu:w.heap.size+2<=u.heap.size:=by rw[hu];simp
 clear hL hes hP h25
 go_enter SqG.func67,Tryz.ntmps67
 go_wp2_with fail
 rw[<- hu]
 clear hu
 refine(zgn wd a cap cs _ hC hm k).mono ?_
 rw[HL.out,HES.out]
 rintro r x1 ⟨a0,c0,a1,c1,a2,n2,c2,rfl,o0,o1,hb1⟩
 have hfld:=zpA (aLt:=aLt) a0 a1 a2 vs.length c0 L.2.length c1 n2 c2
 have hB1:=zaj hbU (by omega) hb1
 have hV1:BkB x1 (w.heap.size+1) (fun j=>seenAt (vs.take 0) j):=by
  have q:=hV0.below hb1
  unfold BkB at q ⊢
  rw[q,zmZ _ (fun j=>seenAt (vs.take 0) j) (fun j _=>by simp[seenAt])]
 have hb2:=hb1.mono zu
 obtain⟨aX,cX,eX,hR3⟩:=zc4 o0
 simp only[Value.slice.injEq,true_and] at eX
 obtain⟨rfl,rfl⟩:=eX
 have hrn:∀ b off,a0=some ⟨b,off,none⟩->u.heap.size<=b:=by
  intro b off e
  subst e
  rcases o0.2 with ⟨q,_⟩|⟨g,cp,cur,q,hg,_⟩
  ·simp at q
  ·simp only[Value.slice.injEq,Option.some.injEq,Addr.mk.injEq] at q
   omega
 have HR:Hid (∀ w',(∀ b,b<x1.heap.size->b≠w.heap.size+1->w'.heap[b]?=x1.heap[b]?)->x1.heap.size<=w'.heap.size->zpb w' a0 vs):=by
  intro w' hq hz
  rcases hR3 with q|⟨b,off,e,hbl,hc⟩
  ·exact Or.inl q
  ·have hne:=hrn b off e
   refine Or.inr ⟨b,off,e,by omega,fun i hi=>?_⟩
   have hk:=hq b hbl (by omega)
   exact⟨by rw[World.cell?_of_block (w:=x1) hk];exact(hc i hi).1,by rw[World.cell?_of_block (w:=x1) hk];exact(hc i hi).2.1,by rw[World.cell?_of_block (w:=x1) hk];exact(hc i hi).2.2⟩
 clear hb1 o0 o1 hC hbU hV0 hR3 hrn
 go_wp2_with fail
 go_loopw [16] (fun ii wr=>∃ i:Nat,i<=vs.length/\ii=.int .i64 i/\Below w.heap.size w wr/\(∀ b,b<x1.heap.size->b≠w.heap.size+1->wr.heap[b]?=x1.heap[b]?)/\x1.heap.size<=wr.heap.size/\BkB wr (w.heap.size+1) (fun j=>seenAt (vs.take i) j)) (fun ii _=>vs.length - (intOf ii).toNat)
 case atStart=>exact⟨0,Nat.zero_le _,rfl,hB1,fun _ _ _=>rfl,Nat.le_refl _,hV1⟩
 case round =>
  rename World=>wo
  obtain⟨i,hi1,rfl,hb,hfr,hsz,hV⟩:=hrel
  have hgl:=hV.lt
  by_cases hlt:i<vs.length
  ·have hR3:=HR.out wo hfr hsz
   rcases hR3 with q|⟨b,off,rfl,hbl,hc⟩
   ·rw[q] at hlt;simp at hlt
   obtain⟨t,et⟩:∃ t,vs.getD i (0,0,0)=t:=⟨_,rfl⟩
   have hmem:t∈vs:=by rw[<- et];simp[List.getElem?_eq_getElem hlt]
   obtain⟨z0,z1,z2⟩:=hc i hlt
   rw[et] at z0 z1 z2
   obtain⟨hx0,hx1⟩:=HP.out t hmem
   obtain⟨t0,t1,t2⟩:=t
   simp only at z0 z1 z2 hx0 hx1
   obtain⟨X,rfl⟩:=Int.eq_ofNat_of_zero_le hx0
   have hXn:X<25:=by omega
   have hst:∀ j,seenAt (vs.take (i+1)) j=(seenAt (vs.take i) j || ((X:Int) == (j:Int))):=by
    intro j
    rw[zes vs i (0,0,0) hlt,et]
    unfold seenAt
    rw[List.any_append]
    simp
   have hbA:Below wo.heap.size wo (wo.alloc (.cells #[.int .i64 (X:Int),.int .i64 t1,.int .i64 t2] 122)):=bel
   have hVA:=hV.below hbA
   have y0:=hVA.cell X hXn
   have yf:=hVA.fz X
   have hVS:BkB (wo.setCell ⟨w.heap.size+1,X,none⟩ (.bool true)) (w.heap.size+1) (fun j=>seenAt (vs.take (i+1)) j):=by
    refine hV.put X hXn (show seenAt (vs.take (i+1)) X=true by rw[hst];simp) (fun j _ hne=>?_)
    show seenAt (vs.take (i+1)) j=seenAt (vs.take i) j
    rw[hst]
    have:((X:Int) == (j:Int))=false:=by simp;omega
    rw[this];simp
   obtain⟨wS,hwS⟩:∃ wS,wS=wo.setCell ⟨w.heap.size+1,X,none⟩ (.bool true):=⟨_,rfl⟩
   have hbS:Below w.heap.size w wS:=by rw[hwS];exact hb.setCell (p:=⟨w.heap.size+1,X,none⟩) (by show w.heap.size<=w.heap.size+1;omega) _
   have hfS:∀ b,b<x1.heap.size->b≠w.heap.size+1->wS.heap[b]?=x1.heap[b]?:=by
    intro b hb' hne
    rw[hwS,Below.heap_setCell _ ⟨w.heap.size+1,X,none⟩ _ b hne]
    exact hfr b hb' hne
   have hzS:x1.heap.size<=wS.heap.size:=by rw[hwS];simpa using hsz
   have hbB:Below wS.heap.size wS (wS.alloc (.cells #[.int .i64 (X:Int),.int .i64 t1,.int .i64 t2] 122)):=bel
   rw[<- hwS] at hVS
   have hV2:=hVS.below hbB
   have hb3:=zaj hbS hbS.size hbB
   have hfr2:∀ b,b<x1.heap.size->b≠w.heap.size+1->(wS.alloc (.cells #[.int .i64 (X:Int),.int .i64 t1,.int .i64 t2] 122)).heap[b]?=x1.heap[b]?:=by
    intro b hb' hne
    rw[hbB.block b (by omega)]
    exact hfS b hb' hne
   have hsz2:x1.heap.size<=(wS.alloc (.cells #[.int .i64 (X:Int),.int .i64 t1,.int .i64 t2] 122)).heap.size:=by have:=hbB.size;omega
   obtain⟨bv,ebv⟩:∃ bv,seenAt (vs.take i) X=bv:=⟨_,rfl⟩
   have y0':=hV.cell X hXn
   have yf':=hV.fz X
   rw[ebv] at y0 y0'
   rw[hwS] at hV2 hb3 hfr2 hsz2
   clear hst hc hmem et ebv hV hVA hfr hb hVS hbS hfS hzS hbB
   clear hwS
   go_wp2_with fail
   go_roundw
   case rel=>exact⟨i+1,by omega,by go_num,hb3,hfr2,hsz2,hV2⟩
   case measure=>simp[intOf];omega
  ·have hV2:BkB wo (w.heap.size+1) (fun j=>seenAt vs j):=by
    unfold BkB at hV ⊢
    rw[hV,List.take_of_length_le (by omega)]
   have hO:zdL wo (w.heap.size+2) 3 (.slice none 0 0) (zaM 0 vs):=Or.inl ⟨rfl,rfl⟩
   clear hV hfr HR
   go_wp2_with (refine wpList_load_row rfl 120 (.tmp 5) rfl (w.heap.size+1) rfl 120 (zpf fun j=>seenAt vs j) (0,0) _ hV2 zqP rfl (by rw[zrB,zcs]) ?_)
   go_wp2_with fail
   go_loopw [8,25] (fun oo ii wr=>∃ i:Nat,i<=25/\ii=.int .i64 i/\Below w.heap.size w wr/\w.heap.size+2<=wr.heap.size/\zdL wr (w.heap.size+2) 3 oo (zaM i vs)/\(∀ C,zjp w C->(zaM 25 vs).length<=C->oo=.slice none 0 0\/zbK oo=C)) (fun _ ii _=>25 - (intOf ii).toNat)
   case atStart=>exact⟨0,by omega,rfl,hb,by omega,hO,fun _ _ _=>.inl rfl⟩
   case round =>
    rename World=>wp
    obtain⟨i2,hi2,rfl,hb',hz',hO2,hT2⟩:=hrel
    have HT2:Hid (∀ C,zjp w C->(zaM 25 vs).length<=C->u8=.slice none 0 0\/zbK u8=C):=hT2
    clear hT2
    by_cases hl2:i2<25
    ·have hix:=ztc (aLt:=aLt) (fun j=>seenAt vs j) i2 hl2
     have hfl:=zhu i2 vs
     have hfs:=zdY vs i2
     rcases hsn:seenAt vs i2 with _|_
     ·rw[hsn] at hix
      rw[if_neg (by simp[hsn])] at hfs
      have HFS:Hid (zaM (i2+1) vs=zaM i2 vs):=hfs
      clear hfs hsn
      go_wp2_with fail
      go_roundw
      case rel=>exact⟨i2+1,by omega,by go_num,hb',hz',by rw[HFS.out];exact hO2,HT2.out⟩
      case measure=>simp[intOf];omega
     ·rw[hsn] at hix
      rw[if_pos hsn] at hfs
      have HFS:Hid (zaM (i2+1) vs=zaM i2 vs++[(i2:Int)]):=hfs
      clear hfs hsn
      have hlm:=znt vs (i2+1) 25 (by omega)
      have hbA:Below wp.heap.size wp (wp.alloc (.cells #[.int .i64 (i2:Int)] 3)):=(Below.refl _ _).alloc (Nat.le_refl _) _
      have hOA:=hO2.below hbA
      go_wp2_with (at_builtin;refine zgr _ rfl _ _ _ rfl (w.heap.size+2) 3 i0 SqG.underlying25 hi iz0 iz1 iz2 _ (zaM i2 vs) rfl hOA ⟨wp.heap.size,0,none⟩ 1 (i2:Int) rfl (by simp[go_sem]) (by omega) (by simp;omega) (wp.heap.size+1) (by simp) ?_)
      intro g6 k6 w6 hO6 hg6 hat6 hlt6 hrm6
      have hown:=fun k q=>(hO2.ownBlock k q).1
      have hz6:=hg6.size
      simp at hz6
      have hb6:Below w.heap.size w w6:=by
       have hzb:=hb'.size
       refine⟨(hg6.os.trans hbA.os).trans hb'.os,(hg6.tape.trans hbA.tape).trans hb'.tape,(hg6.output.trans hbA.output).trans hb'.output,by omega,fun k hk=>?_⟩
       rw[hg6.block k (by simp;omega) (fun q=>by have:=hown k q.symm;omega),hbA.block k (by omega)]
       exact hb'.block k hk
      have hT7:Hid (∀ C,zjp w C->(zaM 25 vs).length<=C->(Value.slice (some ⟨g6,0,none⟩) ((zaM i2 vs).length+1) k6)=.slice none 0 0\/zbK (Value.slice (some ⟨g6,0,none⟩) ((zaM i2 vs).length+1) k6)=C):=by
       intro C hC hl
       refine .inr (hrm6 C (fun i q=>?_) hC.2.1 hC.2.2 ?_ (HT2.out C hC hl))
       ·first
         | (rw[hb'.tape];exact hC.1 i q)
         | (rw[show (wp.alloc (.cells #[.int .i64 (i2:Int)] 3)).tape=wp.tape from rfl,hb'.tape];exact hC.1 i q)
       ·rw[HFS.out] at hlm
        simp at hlm
        omega
      have hz7:w.heap.size+2<=w6.heap.size:=by omega
      clear hg6 hat6 hb' hO2 hbA hown hOA hrm6 HT2 hlm
      go_wp2_with fail
      go_roundw
      case rel=>exact⟨i2+1,by omega,by go_num,hb6,hz7,by rw[HFS.out];exact hO6,hT7.out⟩
      case measure=>simp[intOf];omega
    ·have hfin:i2=25:=by omega
     subst hfin
     have hO3:zdL wp w.heap.size 3 u8 (zaM 25 vs):=hO2.mono (by omega)
     go_wp2_with fail
     go_ret
     exact⟨_,rfl,hO3,HT2.out,hb'⟩
