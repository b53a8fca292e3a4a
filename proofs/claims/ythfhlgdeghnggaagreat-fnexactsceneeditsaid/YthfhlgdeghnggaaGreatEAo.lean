/- Part. -/
import Derived.Test.YthfhlgdeghnggaaGreatEAn
set_option maxHeartbeats 40000000
set_option maxRecDepth 20000
set_option linter.unusedVariables false
namespace Go.Proofs.YthfhlgdeghnggaaGreat
variable{l l':List (Nat × Obj)}{xs:List Int}{cs:Lp}{B:Nat}{e:TypeId}{v:Value}{w0 x:World}
section
open Go Go.RowKit
set_option linter.unusedSimpArgs false
def zeq(xs:List Int):List Value:=xs.map fun x=>J x
def zgP(xs:List Int)(cap:Nat):Array Value:=(zeq xs).toArray++Array.replicate (cap - xs.length) (J 0)
theorem zoZ(xs:List Int):(zeq xs).length=xs.length:=by simp[zeq]
theorem zgM(xs:List Int)(cap:Nat)(h:xs.length<=cap):(zgP xs cap).size=cap:=by simp[zgP,zeq];omega
def zbF:Value->Nat
 | .slice _ _ c=>c
 | _=>0
def zd4(w:World)(B:Nat)(e:TypeId)(v:Value)(xs:List Int):Prop :=
 (v=.slice none 0 0/\xs=[])\/∃ g cap,v=.slice (xA g) xs.length cap/\B<=g/\0<xs.length/\xs.length<=cap/\cap<=maxLen/\w.heap[g]?=some (.cells (zgP xs cap) e)
theorem zd4.below{w w':World}(h:zd4 w B e v xs)(hb:xE w w'):zd4 w' B e v xs:=by
 rcases h with h|⟨g,cap,h1,h2,h3,h4,h5,h6⟩
 ·exact .inl h
 ·exact .inr ⟨g,cap,h1,h2,h3,h4,h5,(hb.block g (gei h6).1).trans h6⟩
theorem zd4.mono{w:World}{B':Nat}(h:zd4 w B e v xs)(hB:B'<=B):zd4 w B' e v xs:=by
 rcases h with h|⟨g,cap,h1,h2,h3⟩
 ·exact .inl h
 ·exact .inr ⟨g,cap,h1,qg,h3⟩
theorem zd4.own{w:World}(h:zd4 w B e v xs):w.ownsRow B e 1 v xs.length (zeq xs):=by
 rcases h with ⟨rfl,rfl⟩|⟨g,cap,rfl,h2,h3,h4,h5,h6⟩
 ·exact World.ownsRow_nil _ _ _ _
 ·refine⟨by simp[zeq],.inr ⟨g,cap,_,rfl,h2,h6,h4,h5,by rw[zgM _ _ h4];omega,?_⟩⟩
  simp[zgP,zeq]
theorem zd4.ownBlock{w:World}(h:zd4 w B e v xs):∀ k,v.ownBlock=some k->B<=k/\k<w.heap.size:=h.own.lt
theorem zeI(n:Nat):Builtin.zeroCells (Value.int .i64 0).cells n=Array.replicate n (J 0):=by
 apply Array.ext
 ·simp[Builtin.zeroCells,Value.cells]
 ·intro i h1 h2
  simp[Builtin.zeroCells,Value.cells,Nat.mod_one]
theorem zoa{w:World}{need C:Nat}{old:Nat}(h:∀ i q,w.tape i q=C - 1)(h1:1<=C)(h2:C<=maxLen):grownCap w 1 old e=C:=by
 unfold grownCap Question.cut
 rw[h]
 unfold maxLen at h2
 simp only
 rw[Nat.mod_eq_of_lt qg]
 omega
section
variable{P:Program}(w:World)
theorem zjA(t ty:TypeId)(B:Nat)(e:TypeId)(i:TypeInfo)(ht:P.underlying t=some (.slice e))(hi:P.info? e=some i)(hz:i.zero=some (J 0))(h0:i.size=1)(h8:i.bytes=8)(v:Value)(xs:List Int)(hR:zd4 w B e v xs)(ad:Addr)(c:Nat)(k:Int)(hk:w.cell? ad=some (J k))(hq:xs.length<=1000)(hB:B<=w.heap.size)(H:Nat)(hH:w.heap.size=H) :
  ∃ g cap w',(Builtin.append_ #[t,t] ty #[v,.slice (some ad) 1 c]).run P w=.ok (.slice (xA g) (xs.length+1) cap) w'/\zd4 w' B e (.slice (xA g) (xs.length+1) cap) (xs++[k])/\w.grownBy w' v.ownBlock/\(v.ownBlock=some g\/g=H)/\g<w'.heap.size /\
   (∀ C,(∀ i q,w.tape i q=C - 1)->1<=C->C<=maxLen->xs.length+1<=C->(v=.slice none 0 0\/zbF v=C)->cap=C):=by
 have h7:∀ j u,([J k]:List Value)[j]?=some u->w.cell? (ad.add j)=some u:=by
  intro j u hj
  cases j with
  | zero =>
   rw[show ad.add 0=ad by unfold Addr.add;split <;> simp_all,hk]
   simpa using hj
  | succ j=>simp at hj
 rcases hR with ⟨rfl,rfl⟩|⟨g,cap,rfl,h2,h3,h4,h5,h6⟩
 ·have hr:=run_append_nil (P:=P) w t ty e i (J 0) ht hi hz ad 1 c [J k] (by rw[h0];rfl) h7 qg qg (by rw[h8];omega)
  have h9:=grownCap_ge w 1 0 e
  have he:=grownCap_le_maxLen w 1 0 e qs
  refine⟨w.heap.size,grownCap w 1 0 e,_,hr,.inr ⟨w.heap.size,grownCap w 1 0 e,rfl,hB,qm,by simpa using h9,he,?_⟩,?_,.inr hH,qm,?_⟩
  ·have e1:(#[Value.int .i64 k]++Builtin.zeroCells (Value.int .i64 0).cells (grownCap w 1 0 e - 1))=zgP ([]++[k]) (grownCap w 1 0 e):=by
    rw[zeI]
    rfl
   rw[show ([Value.int .i64 k]:List Value).toArray=#[Value.int .i64 k] from rfl,e1]
   exact heap_alloc_new w.drew _
  ·exact⟨rfl,rfl,rfl,qm,fun j hj _=>by show (w.heap.push _)[j]?=w.heap[j]?;rw[Array.getElem?_push,if_neg (Nat.ne_of_lt hj)]⟩
  ·intro C hC h1 h2 _ _
   exact zoa (need:=1) hC h1 h2
 ·by_cases hroom:xs.length+1<=cap
  ·have hr:=run_append_room (P:=P) w t ty e i ht hi g xs.length cap (zgP xs cap) h6 ad 1 c [J k] (by rw[h0];rfl) h7 qo hroom (by rw[h0,zgM _ _ h4];simp;omega)
   have e1:((zgP xs cap).toList.take (xs.length * i.size)++[Value.int .i64 k]++(zgP xs cap).toList.drop (xs.length * i.size+([Value.int .i64 k]:List Value).length)).toArray=zgP (xs++[k]) cap:=by
    rw[h0,Nat.mul_one]
    apply Array.ext'
    have:cap - xs.length=(cap - (xs.length+1))+1:=qg
    simp only[zgP,zeq,Array.toList_append,List.toList_toArray,Array.toList_replicate,this,List.length_append,List.length_cons,List.length_nil,List.map_append,List.map_cons,List.map_nil]
    rw[List.take_left' qm,List.replicate_succ,List.drop_append]
    simp
   rw[e1] at hr
   refine⟨g,cap,_,hr,.inr ⟨g,cap,qm,h2,qm,by simpa using hroom,h5,setRow_heap w g _ _ e _ h6⟩,?_,.inl rfl,?_,?_⟩
   ·exact⟨rfl,rfl,rfl,by simp[World.setRow],fun j hj hg=>setRow_other w g j _ (fun q=>hg (by simp[Value.ownBlock,q]))⟩
   ·have:=(gei h6).1
    simpa [World.setRow] using this
   ·intro C _ _ _ _ q
    rcases q with q|q
    ·cases q
    ·exact q
  ·have hf:cap=xs.length:=qg
   subst hf
   have hp:∀ j u,(zeq xs)[j]?=some u->w.cell? (((O g 0):Addr).add j)=some u:=by
    intro j u hj
    have hO:=(show zd4 w B e (.slice (xA g) xs.length xs.length) xs from .inr ⟨g,xs.length,rfl,h2,h3,h4,h5,h6⟩).own
    exact hO.cells rfl j u hj
   have hr:=run_append_grow (P:=P) w t ty e i (J 0) ht hi hz (O g 0) xs.length xs.length (zeq xs) (by rw[h0,zoZ];omega) hp ad 1 c [J k] (by rw[h0];rfl) h7 qg qg (growslice_fits_succ (by rw[h8];omega) (by rw[h8];omega))
   have h9:=grownCap_ge w (xs.length+1) xs.length e
   have he:=grownCap_le_maxLen w (xs.length+1) xs.length e qs
   refine⟨w.heap.size,grownCap w (xs.length+1) xs.length e,_,hr,.inr ⟨w.heap.size,_,qm,hB,qm,by simpa using h9,he,?_⟩,?_,.inr hH,qm,?_⟩
   ·have e1:(zeq xs).toArray++([Value.int .i64 k]:List Value).toArray++Builtin.zeroCells (Value.int .i64 0).cells (grownCap w (xs.length+1) xs.length e - (xs.length+1))=zgP (xs++[k]) (grownCap w (xs.length+1) xs.length e):=by
     rw[zeI]
     simp[zgP,zeq]
    rw[e1]
    exact heap_alloc_new w.drew _
   ·exact⟨rfl,rfl,rfl,qm,fun j hj _=>by show (w.heap.push _)[j]?=w.heap[j]?;rw[Array.getElem?_push,if_neg (Nat.ne_of_lt hj)]⟩
   ·intro C _ _ _ hl q
    rcases q with q|q
    ·cases q
    ·simp only[zbF] at q
     omega
theorem zgJ{ops:Array Oper}{rest:List Oper}{o:Oper}{a:Act}{Q:Exit->Act->Wq}(h1:o.guard=none)(s x:Operand)(t:TypeId)(ho:o.op=.call { callee:=.builtin .append,args:=#[s,x],argTypes:=#[t,t] })(B:Nat)(e:TypeId)(i:TypeInfo)(ht:P.underlying t=some (.slice e))(hi:P.info? e=some i)(hz:i.zero=some (J 0))(h0:i.size=1)(h7:i.bytes=8)(v:Value)(xs:List Int)(hs:a.eval s=v)(hR:zd4 w B e v xs)(ad:Addr)(c:Nat)(k:Int)(hx:a.eval x=.slice (some ad) 1 c)(hk:w.cell? ad=some (J k))(h8:xs.length<=1000)(hB:B<=w.heap.size)(H:Nat)(hH:w.heap.size=H)(h:∀ g cap w',zd4 w' B e (.slice (xA g) (xs.length+1) cap) (xs++[k])->w.grownBy w' v.ownBlock->(v.ownBlock=some g\/g=H)->g<w'.heap.size->(∀ C,(∀ i q,w.tape i q=C - 1)->1<=C->C<=maxLen->xs.length+1<=C->(v=.slice none 0 0\/zbF v=C)->cap=C)->wpList P ops Q rest (a.put o.dst (.slice (xA g) (xs.length+1) cap)) w'):wpList P ops Q (o::rest) a w :=
 wpList_plain h1 fun _ hK=>by
  obtain⟨g,cap,w',hr,h2,h3,h4,h5,h6⟩:=zjA (P:=P) w t o.type B e i ht hi hz h0 h7 v xs hR ad c k hk h8 hB H hH
  unfold Oper.wp execOp
  simp only[ho,resolve,invoke,builtin,Sem.run_bind,Sem.run_pure,Result.andThen_ok,List.map_toArray,List.map_cons,List.map_nil,hs,hx,hr]
  exact hK _ _ (h g cap w' h2 h3 h4 h5 h6)
end
end
namespace Sp
variable{aLt:Nat->Func->Func}
open Go.RowKit
attribute [local go_sem ↓] Go.wp_at_zero Go.wp_at_succ
def zj0(w:World)(C:Nat):Prop:=(∀ i q,w.tape i q=C - 1)/\1<=C/\C<=maxLen
theorem zou(vs:Le)(i j:Nat)(h:i<=j):(zaK i vs).length<=(zaK j vs).length:=by
 obtain⟨m,rfl⟩:∃ m,j=i+m:=⟨j - i,qg⟩
 induction m with
 | zero=>exact Nat.le_refl _
 | succ m ih =>
  have hs:=zeh vs (i+m)
  have h1:=ih qg
  rw[<- Nat.add_assoc,hs]
  by_cases q:seenAt vs (i+m)=true
  ·rw[if_pos q];simp;omega
  ·rw[if_neg q];exact h1
theorem zdB(wd:Int)(a:Od)(cap:Nat)(cs:Lp)(w:World)(h:zaf w a cs)(hm:cs.length<=1048576)(k:Int) :
  Calls (SqG.prog aLt) 67 #[.agg (xG wd a cs.length cap),J k] w fun e w'=>∃ v,e=.returned v/\zd4 w' w.heap.size 3 v (zaA wd cs k)/\(∀ C,zj0 w C->(zaA wd cs k).length<=C->v=.slice none 0 0\/zbF v=C)/\xE w w':=by
 obtain⟨i0,hi,iz0,iz1,iz2⟩:=info_parts (zlE (aLt:=aLt))
 obtain⟨L,hL⟩:∃ L,zaO wd cs k=L:=⟨_,rfl⟩
 obtain⟨hP,p8,h7,_⟩:=zdy hL
 obtain⟨vs,h8⟩:∃ vs,L.1=vs:=⟨_,rfl⟩
 rw[h8] at hP p8 h7
 have HF:Hid (zaA wd cs k=zaK 25 vs):=by
  show _=_
  unfold zaA
  rw[hL,h8]
  by_cases e:vs=[]
  ·subst e
   rw[ziU,ziU]
  ·exact(zsJ cs.length vs (h7 e) hP).symm
 rw[HF.o]
 have HP:Hid (∀ u∈vs,0<=u.1/\u.1<25):=fun u hu=>by
  have q1:=hP u hu
  have q2:=h7 (fun z=>by rw[z] at hu;simp at hu)
  omega
 have HL:Hid (zaO wd cs k=L):=hL
 have HES:Hid (L.1=vs):=h8
 obtain⟨u,hu⟩:∃ u,u=(w.alloc (.cells (xG wd a cs.length cap) 33)).alloc (.cells #[.bool false,.bool false,.bool false,.bool false,.bool false,.bool false,.bool false,.bool false,.bool false,.bool false,.bool false,.bool false,.bool false,.bool false,.bool false,.bool false,.bool false,.bool false,.bool false,.bool false,.bool false,.bool false,.bool false,.bool false,.bool false] 120):=⟨_,rfl⟩
 have hD:xE w u:=by rw[hu];exact bel
 have hN:BkB u (w.heap.size+1) (fun _=>false):=by rw[hu];exact zde _ _ _ qm
 have hC:=h.below hD
 have zu:w.heap.size+2<=u.heap.size:=by rw[hu];simp
 clear hL h8 hP h7
 go_enter (zfx Tryz.func67),Tryz.ntmps67
 go_wp2_with fail
 rw[<- hu]
 clear hu
 refine(zgG wd a cap cs _ hC hm k).mono ?_
 rw[HL.o,HES.o]
 rintro r x1 ⟨a0,c0,a1,c1,a2,n2,c2,rfl,o0,o1,h9⟩
 have pk:=zqG (aLt:=aLt) a0 a1 a2 vs.length c0 L.2.length c1 n2 c2
 have p9:=zae hD qg h9
 have pa:BkB x1 (w.heap.size+1) (fun j=>seenAt (vs.take 0) j):=by
  have q:=hN.below h9
  unfold BkB at q ⊢
  rw[q,znU _ (fun j=>seenAt (vs.take 0) j) (fun j _=>by simp[seenAt])]
 have pn:=h9.mono zu
 obtain⟨aX,cX,eX,he⟩:=zdn o0
 simp only[Value.slice.injEq,true_and] at eX
 obtain⟨rfl,rfl⟩:=eX
 have hQ:∀ b off,a0=some (O b off)->u.heap.size<=b:=by
  intro b off e
  subst e
  rcases o0.2 with ⟨q,_⟩|⟨g,cp,cur,q,hg,_⟩
  ·simp at q
  ·simp only[Value.slice.injEq,Option.some.injEq,Addr.mk.injEq] at q
   omega
 have HR:Hid (∀ w',(∀ b,b<x1.heap.size->b≠w.heap.size+1->w'.heap[b]?=x1.heap[b]?)->x1.heap.size<=w'.heap.size->zqg w' a0 vs):=by
  intro w' hq hz
  rcases he with q|⟨b,off,e,hT,hc⟩
  ·exact Or.inl q
  ·have h1:=hQ b off e
   refine Or.inr ⟨b,off,e,qg,fun i hi=>?_⟩
   have hk:=hq b hT qg
   exact⟨by rw[World.cell?_of_block (w:=x1) hk];exact(hc i hi).1,by rw[World.cell?_of_block (w:=x1) hk];exact(hc i hi).2.1,by rw[World.cell?_of_block (w:=x1) hk];exact(hc i hi).2.2⟩
 clear h9 o0 o1 hC hD hN he hQ
 go_wp2_with fail
 go_loopw [16] (fun ii wr=>∃ i:Nat,i<=vs.length/\ii=J i/\xE w wr/\(∀ b,b<x1.heap.size->b≠w.heap.size+1->wr.heap[b]?=x1.heap[b]?)/\x1.heap.size<=wr.heap.size/\BkB wr (w.heap.size+1) (fun j=>seenAt (vs.take i) j)) (fun ii _=>vs.length - (intOf ii).toNat)
 case atStart=>exact⟨0,Nat.zero_le _,rfl,p9,fun _ _ _=>rfl,Nat.le_refl _,pa⟩
 case round =>
  rename World=>wo
  obtain⟨i,pp,rfl,hb,hf,hU,hV⟩:=hrel
  have pq:=hV.lt
  by_cases hlt:i<vs.length
  ·have he:=HR.o wo hf hU
   rcases he with q|⟨b,off,rfl,hT,hc⟩
   ·rw[q] at hlt;simp at hlt
   obtain⟨t,et⟩:∃ t,vs.getD i (0,0,0)=t:=⟨_,rfl⟩
   have hp:t∈vs:=by rw[<- et];simp[List.getElem?_eq_getElem hlt]
   obtain⟨z0,z1,z2⟩:=hc i hlt
   rw[et] at z0 z1 z2
   obtain⟨hX,pb⟩:=HP.o t hp
   obtain⟨t0,t1,t2⟩:=t
   simp only at z0 z1 z2 hX pb
   obtain⟨X,rfl⟩:=Int.eq_ofNat_of_zero_le hX
   have hE:X<25:=qg
   have hF:∀ j,seenAt (vs.take (i+1)) j=(seenAt (vs.take i) j || ((X:Int) == (j:Int))):=by
    intro j
    rw[zeF vs i (0,0,0) hlt,et]
    unfold seenAt
    rw[List.any_append]
    simp
   have h0:xE wo (wo.alloc (.cells #[J (X:Int),J t1,J t2] 122)):=bel
   have hG:=hV.below h0
   have y0:=hG.cell X hE
   have yf:=hG.fz X
   have hJ:BkB (wo.setCell (xD w 1 X) (.bool true)) (w.heap.size+1) (fun j=>seenAt (vs.take (i+1)) j):=by
    refine hV.put X hE (show seenAt (vs.take (i+1)) X=true by rw[hF];simp) (fun j _ h1=>?_)
    show seenAt (vs.take (i+1)) j=seenAt (vs.take i) j
    rw[hF]
    have:((X:Int) == (j:Int))=false:=qn
    rw[this];simp
   obtain⟨wS,h2⟩:∃ wS,wS=wo.setCell (xD w 1 X) (.bool true):=⟨_,rfl⟩
   have hK:xE w wS:=by rw[h2];exact hb.setCell (p:=(xD w 1 X)) (by show w.heap.size<=w.heap.size+1;omega) _
   have hY:∀ b,b<x1.heap.size->b≠w.heap.size+1->wS.heap[b]?=x1.heap[b]?:=by
    intro b hb' h1
    rw[h2,Below.heap_setCell _ (xD w 1 X) _ b h1]
    exact hf b hb' h1
   have pc:x1.heap.size<=wS.heap.size:=by rw[h2];simpa using hU
   have h5:xE wS (wS.alloc (.cells #[J (X:Int),J t1,J t2] 122)):=bel
   rw[<- h2] at hJ
   have hj:=hJ.below h5
   have hZ:=zae hK hK.size h5
   have hs:∀ b,b<x1.heap.size->b≠w.heap.size+1->(wS.alloc (.cells #[J (X:Int),J t1,J t2] 122)).heap[b]?=x1.heap[b]?:=by
    intro b hb' h1
    rw[h5.block b qg]
    exact hY b hb' h1
   have hw:x1.heap.size<=(wS.alloc (.cells #[J (X:Int),J t1,J t2] 122)).heap.size:=by have:=h5.size;omega
   obtain⟨bv,ebv⟩:∃ bv,seenAt (vs.take i) X=bv:=⟨_,rfl⟩
   have y0':=hV.cell X hE
   have yf':=hV.fz X
   rw[ebv] at y0 y0'
   rw[h2] at hj hZ hs hw
   clear hF hc hp et ebv hV hG hf hb hJ hK hY pc h5
   clear h2
   go_wp2_with fail
   go_roundw
   case rel=>exact⟨i+1,qg,by go_num,hZ,hs,hw,hj⟩
   case measure=>exact qe
  ·have hj:BkB wo (w.heap.size+1) (fun j=>seenAt vs j):=by
    unfold BkB at hV ⊢
    rw[hV,List.take_of_length_le qg]
   have hO:zd4 wo (w.heap.size+2) 3 (.slice none 0 0) (zaK 0 vs):=Or.inl ⟨rfl,rfl⟩
   clear hV hf HR
   go_wp2_with (refine wpList_load_row rfl 120 (.tmp 5) rfl (w.heap.size+1) rfl 120 (zql fun j=>seenAt vs j) (0,0) _ hj zrX rfl (by rw[zsO,zcD]) ?_)
   go_wp2_with fail
   go_loopw [8,25] (fun oo ii wr=>∃ i:Nat,i<=25/\ii=J i/\xE w wr/\w.heap.size+2<=wr.heap.size/\zd4 wr (w.heap.size+2) 3 oo (zaK i vs)/\(∀ C,zj0 w C->(zaK 25 vs).length<=C->oo=.slice none 0 0\/zbF oo=C)) (fun _ ii _=>25 - (intOf ii).toNat)
   case atStart=>exact⟨0,qg,rfl,hb,qg,hO,fun _ _ _=>.inl rfl⟩
   case round =>
    rename World=>wp
    obtain⟨i2,pr,rfl,hb',hz',h6,p0⟩:=hrel
    have HT2:Hid (∀ C,zj0 w C->(zaK 25 vs).length<=C->u8=.slice none 0 0\/zbF u8=C):=p0
    clear p0
    by_cases hl2:i2<25
    ·have p1:=zuD (aLt:=aLt) (fun j=>seenAt vs j) i2 hl2
     have ps:=zeO i2 vs
     have h3:=zeh vs i2
     rcases hsn:seenAt vs i2 with _|_
     ·rw[hsn] at p1
      rw[if_neg (by simp[hsn])] at h3
      have HFS:Hid (zaK (i2+1) vs=zaK i2 vs):=h3
      clear h3 hsn
      go_wp2_with fail
      go_roundw
      case rel=>exact⟨i2+1,qg,by go_num,hb',hz',by rw[HFS.o];exact h6,HT2.o⟩
      case measure=>exact qe
     ·rw[hsn] at p1
      rw[if_pos hsn] at h3
      have HFS:Hid (zaK (i2+1) vs=zaK i2 vs++[(i2:Int)]):=h3
      clear h3 hsn
      have hM:=zou vs (i2+1) 25 qg
      have h0:xE wp (wp.alloc (.cells #[J (i2:Int)] 3)):=(Below.refl _ _).alloc (Nat.le_refl _) _
      have p5:=h6.below h0
      go_wp2_with (at_builtin;refine zgJ _ rfl _ _ _ rfl (w.heap.size+2) 3 i0 SqG.underlying25 hi iz0 iz1 iz2 _ (zaK i2 vs) rfl p5 (xC wp 0) 1 (i2:Int) rfl ql qg qn (wp.heap.size+1) qm ?_)
      intro g6 k6 w6 pd h4 p6 pm hy
      have hA:=fun k q=>(h6.ownBlock k q).1
      have pe:=h4.size
      simp at pe
      have pf:xE w w6:=by
       have pu:=hb'.size
       refine⟨(h4.os.trans h0.os).trans hb'.os,(h4.tape.trans h0.tape).trans hb'.tape,(h4.output.trans h0.output).trans hb'.output,qg,fun k hk=>?_⟩
       rw[h4.block k qn (fun q=>by have:=hA k q.symm;omega),h0.block k qg]
       exact hb'.block k hk
      have pg:Hid (∀ C,zj0 w C->(zaK 25 vs).length<=C->(Value.slice (xA g6) ((zaK i2 vs).length+1) k6)=.slice none 0 0\/zbF (Value.slice (xA g6) ((zaK i2 vs).length+1) k6)=C):=by
       intro C hC hl
       refine .inr (hy C (fun i q=>?_) hC.2.1 hC.2.2 ?_ (HT2.o C hC hl))
       ·first
         | (rw[hb'.tape];exact hC.1 i q)
         | (rw[show (wp.alloc (.cells #[J (i2:Int)] 3)).tape=wp.tape from rfl,hb'.tape];exact hC.1 i q)
       ·rw[HFS.o] at hM
        simp at hM
        omega
      have pi:w.heap.size+2<=w6.heap.size:=qg
      clear h4 p6 hb' h6 h0 hA p5 hy HT2 hM
      go_wp2_with fail
      go_roundw
      case rel=>exact⟨i2+1,qg,by go_num,pf,pi,by rw[HFS.o];exact pd,pg.o⟩
      case measure=>exact qe
    ·have p7:i2=25:=qg
     subst p7
     have pj:zd4 wp w.heap.size 3 u8 (zaK 25 vs):=h6.mono qg
     go_wp2_with fail
     go_ret
     exact⟨_,rfl,pj,HT2.o,hb'⟩
theorem ziY(wd:Int)(a:Od)(cap:Nat)(cs:Lp)(w:World)(h:zaf w a cs)(hm:cs.length<=1048576)(k:Int) :
  Calls (SqG.prog aLt) 67 #[.agg (xG wd a cs.length cap),J k] w fun e w'=>∃ v,e=.returned v/\zaL w' w.heap.size v (zaA wd cs k)/\xE w w' :=
 (zdB wd a cap cs w h hm k).mono fun _ _ ⟨v,e1,h1,_,h2⟩=>⟨v,e1,h1.own,h2⟩
end Sp
namespace Sp
open Go.RowKit
attribute [local go_sem ↓] Go.wp_at_zero Go.wp_at_succ
theorem zl0(wd:Int)(a:Od)(cap:Nat)(cs:Lp)(w:World)(h:zaf w a cs)(hm:cs.length<4611686018427387904)(hk:okG wd cs=false) :
  Calls SqP.prog 54 #[.agg (xG wd a cs.length cap)] w (xB w (.tuple #[.agg xF,.bool false])):=by
 go_enter SqP.func54,SqP.ntmps54
 unfold zsD
 refine wp_seq (zsE wd a cap cs w h hm fun w1 u1 u2 u3 u4 u5 u6 u7 u8 u9 u10 u11 u12 u13 u14 u15 u16 u17 u18 u19 u20 u21 h0=>wp_skip ?_)
 have hC:=h.below h0
 have hz:=h0.size
 show Code.wp _ _ _ _ _
 unfold zhi scG scN
 simp only[opr]
 go_wp2_with fail
 refine(zbK _ _ _ cs _ hC qg).mono ?_
 rintro e w2 ⟨rfl,h2⟩
 rw[hk]
 have h1:=zae h0 hz h2
 go_wp2_with fail
 refine bodyPost_ret (v:=.tuple #[.agg xF,.bool false]) (by simp[results,SqP.results54,Tryz.results54,go_sem]) rfl ⟨rfl,h1.alloc h1.size _⟩
theorem zqU:(SqP.prog.info? 25).map (fun i=>(i.zero,i.size,i.bytes))=some (some (.slice none 0 0),1,24):=qh
theorem zhc(n:Nat)(hn:n<=1048576)(w:World):(Instr.makeSlice 26 (J (n:Int)) (J (n:Int))).run SqP.prog w=.ok (.slice (xA w.heap.size) n n) (w.alloc (.cells (madeCells #[.slice none 0 0] n) 25)):=by
 obtain⟨i0,hi,iz0,iz1,iz2⟩:=info_parts zqU
 have:=run_make (P:=SqP.prog) w 26 25 i0 (.slice none 0 0) SqP.underlying26 hi iz0 .i64 .i64 (n:Int) (n:Int) qg qg (by rw[iz2];omega) qg
 rw[iz1] at this
 simpa [Value.cells] using this
theorem ztS(wd:Int)(a:Od)(cap:Nat)(cs:Lp)(w:World)(h:zaf w a cs)(hm:cs.length<=1048576)(M k gc gl gf:Nat)(hV:k<M)(hM:M<=20)(arrL arrF:Array Value)(hL:w.heap[gl]?=some (.cells arrL 3))(hF:w.heap[gf]?=some (.cells arrF 25))(hX:arrL.size=M)(hY:arrF.size=M)(he:gl≠gf)(hA:∀ b off,a=some (O b off)->b≠gl/\b≠gf)(C:Nat)(hT:zj0 w C)(hs:(zaA wd cs k).length<=C)(u1 u2 u3 u4 u5 u11 u12 u13 u14 u15 u16 u17 u18 u19 u20 u21:Value){Q:Exit->Act->Wq}(hK:∀(v u11 u12 u13 u14 u15:Value) (w':World),zd4 w' w.heap.size 3 v (zaA wd cs k)->(v=.slice none 0 0\/zbF v=C)->w'.heap[gl]?=some (.cells (arrL.setIfInBounds k (J (zaU wd cs k))) 3)->w'.heap[gf]?=some (.cells (arrF.setIfInBounds k v) 25)->(∀ b,b<w.heap.size->b≠gl->b≠gf->w'.heap[b]?=w.heap[b]?)->w.heap.size<=w'.heap.size->w'.os=w.os/\w'.tape=w.tape/\w'.output=w.output->Q .normal ⟨#[.agg (xG wd a cs.length cap),u1,u2,u3,u4,u5,.agg (xG wd (xA gc) cs.length cs.length),J (M:Int),.slice (xA gl) M M,.slice (xA gf) M M,J ((k:Int)+1),u11,u12,u13,u14,u15,u16,u17,u18,u19,u20,u21],[]⟩ w') :
  scL.wp SqP.prog Q ⟨#[.agg (xG wd a cs.length cap),u1,u2,u3,u4,u5,.agg (xG wd (xA gc) cs.length cs.length),J (M:Int),.slice (xA gl) M M,.slice (xA gf) M M,J ((k:Int)),u11,u12,u13,u14,u15,u16,u17,u18,u19,u20,u21],[]⟩ w:=by
 have bl:decide ((k:Int)<(M:Int))=true:=decide_eq_true qg
 have wk:IntKind.i64.wrap ((k:Int)+1)=(k:Int)+1:=IntWalk.i64_in _ qg
 have hD:=(gei hL).1
 have hE:=(gei hF).1
 have HL:Hid (w.heap[gl]?=some (.cells arrL 3)):=hL
 have HF:Hid (w.heap[gf]?=some (.cells arrF 25)):=hF
 clear hL hF
 unfold scL
 simp only[opr]
 go_wp2_with fail
 refine(zbT wd a cap cs w h hm k).mono ?_
 rintro e w1 ⟨rfl,h0⟩
 obtain⟨lt,elt⟩:∃ lt,zaU wd cs (k:Int)=lt:=⟨_,rfl⟩
 rw[elt]
 have h4:w1.heap[gl]?=some (.cells arrL 3):=(h0.block gl hD).trans HL.o
 have hf:w1.heap[gf]?=some (.cells arrF 25):=(h0.block gf hE).trans HF.o
 have cl:w1.cell? (O gl k)=some arrL[k]:=by rw[cell_of_row _ _ _ _ _ _ h4];exact Array.getElem?_eq_getElem qg
 have fl:w1.frozen? (O gl k)=false:=frozen_of_row _ _ _ _ _ h4
 have hg:(w1.setCell (O gl k) (J lt)).heap[gl]?=some (.cells (arrL.setIfInBounds k (J lt)) 3):=heap_setCell_same w1 gl k _ _ _ h4
 have hj:(w1.setCell (O gl k) (J lt)).heap[gf]?=some (.cells arrF 25):=(Below.heap_setCell _ _ _ _ (fun e=>he e.symm)).trans hf
 have hk:zaf (w1.setCell (O gl k) (J lt)) a cs:=by
  rcases h.below h0 with q|⟨b,off,rfl,hG,hc⟩
  ·exact .inl q
  ·refine .inr ⟨b,off,rfl,by simpa using hG,fun i hi=>?_⟩
   have h5:=(hA b off rfl).1
   rw[World.cell?_of_block (w:=w1) (a:=(O b _)) (Below.heap_setCell _ _ _ _ h5),World.cell?_of_block (w:=w1) (a:=(O b _)) (Below.heap_setCell _ _ _ _ h5)]
   exact hc i hi
 have hl:zj0 (w1.setCell (O gl k) (J lt)) C:=⟨fun i q=>by rw[show (w1.setCell (O gl k) (J lt)).tape=w1.tape from rfl,h0.tape];exact hT.1 i q,hT.2⟩
 have p0:=h0.size
 have h7:∀ b,b<w.heap.size->b≠gl->(w1.setCell (O gl k) (J lt)).heap[b]?=w.heap[b]?:=fun b hb h5=>(Below.heap_setCell _ _ _ _ h5).trans (h0.block b hb)
 have hu:w1.heap.size<=(w1.setCell (O gl k) (J lt)).heap.size:=qm
 go_wp2_with fail
 obtain⟨w2,h8⟩:∃ w2,w2=w1.setCell (O gl k) (J lt):=⟨_,rfl⟩
 have h9:w2.os=w.os/\w2.tape=w.tape/\w2.output=w.output:=by rw[h8];exact⟨h0.os,h0.tape,h0.output⟩
 rw[<- h8] at hg hj hk hl h7 hu ⊢
 clear h8 cl fl h4 hf h0 HL HF
 refine(zdB wd a cap cs w2 hk hm k).mono ?_
 rintro e w3 ⟨v,rfl,hZ,hp,h3⟩
 have hJ:∃ xa xn xc,v=.slice xa xn xc:=by
  rcases hZ with ⟨q,_⟩|⟨g,c,q,_⟩
  ·exact⟨_,_,_,q⟩
  ·exact⟨_,_,_,q⟩
 obtain⟨xa,xn,xc,rfl⟩:=hJ
 have p1:=h3.size
 have hq:w3.heap[gl]?=some (.cells (arrL.setIfInBounds k (J lt)) 3):=(h3.block gl qg).trans hg
 have h6:w3.heap[gf]?=some (.cells arrF 25):=(h3.block gf qg).trans hj
 have cf:w3.cell? (O gf k)=some arrF[k]:=by rw[cell_of_row _ _ _ _ _ _ h6];exact Array.getElem?_eq_getElem qg
 have ff:w3.frozen? (O gf k)=false:=frozen_of_row _ _ _ _ _ h6
 have hN:(w3.setCell (O gf k) (.slice xa xn xc)).heap[gl]?=some (.cells (arrL.setIfInBounds k (J lt)) 3):=(Below.heap_setCell _ _ _ _ he).trans hq
 have hP:(w3.setCell (O gf k) (.slice xa xn xc)).heap[gf]?=some (.cells (arrF.setIfInBounds k (.slice xa xn xc)) 25):=heap_setCell_same w3 gf k _ _ _ h6
 have hw:∀ b,b<w.heap.size->b≠gl->b≠gf->(w3.setCell (O gf k) (.slice xa xn xc)).heap[b]?=w.heap[b]?:=fun b hb h1 h2=>((Below.heap_setCell _ _ _ _ h2).trans (h3.block b qg)).trans (h7 b hb h1)
 have hQ:zd4 (w3.setCell (O gf k) (.slice xa xn xc)) w.heap.size 3 (.slice xa xn xc) (zaA wd cs k):=by
  rcases hZ with q|⟨g,c,q1,q2,q3,q4,q5,q6⟩
  ·exact .inl q
  ·exact .inr ⟨g,c,q1,qg,q3,q4,q5,(Below.heap_setCell _ _ _ _ (by show g≠gf;omega)).trans q6⟩
 have hy:=hp C hl hs
 have hU:(w3.setCell (O gf k) (.slice xa xn xc)).os=w.os/\(w3.setCell (O gf k) (.slice xa xn xc)).tape=w.tape/\(w3.setCell (O gf k) (.slice xa xn xc)).output=w.output:=⟨h3.os.trans h9.1,h3.tape.trans h9.2.1,h3.output.trans h9.2.2⟩
 have hz:w.heap.size<=(w3.setCell (O gf k) (.slice xa xn xc)).heap.size:=qn
 subst elt
 clear hq h6 h3 hZ hp
 go_wp2_with fail
 exact hK _ _ _ _ _ _ _ hQ hy hN hP hw hz hU
theorem zs5(wd:Int)(a:Od)(cap:Nat)(cs:Lp)(w:World)(M gc gl gf:Nat)(u1 u2 u3 u4 u5 u11 u12 u13 u14 u15 u16 u17 u18 u19 u20 u21:Value){Q:Exit->Act->Wq}(hK:∀ u11,Q (.exit 1) ⟨#[.agg (xG wd a cs.length cap),u1,u2,u3,u4,u5,.agg (xG wd (xA gc) cs.length cs.length),J (M:Int),.slice (xA gl) M M,.slice (xA gf) M M,J ((M:Int)),u11,u12,u13,u14,u15,u16,u17,u18,u19,u20,u21],[]⟩ w) :
  scL.wp SqP.prog Q ⟨#[.agg (xG wd a cs.length cap),u1,u2,u3,u4,u5,.agg (xG wd (xA gc) cs.length cs.length),J (M:Int),.slice (xA gl) M M,.slice (xA gf) M M,J ((M:Int)),u11,u12,u13,u14,u15,u16,u17,u18,u19,u20,u21],[]⟩ w:=by
 have bl:decide ((M:Int)<(M:Int))=false:=decide_eq_false qg
 unfold scL
 simp only[opr]
 go_wp2_with fail
 exact hK _
theorem zsj(wd:Int)(a:Od)(cap:Nat)(cs:Lp)(w:World)(h:zaf w a cs)(hm:cs.length<4611686018427387904)(hk:okG wd cs=true)(u1 u2 u3 u4 u5 u6 u7 u8 u9 u10 u11 u12 u13 u14 u15 u16 u17 u18 u19 u20 u21:Value){Q:Exit->Act->Wq}(hK:∀ w',xE w w'->Q .normal ⟨#[.agg (xG wd a cs.length cap),u1,u2,.bool true,u4,u5,u6,u7,u8,u9,u10,u11,u12,u13,u14,u15,u16,u17,u18,u19,u20,u21],[]⟩ w') :
  scG.wp SqP.prog Q ⟨#[.agg (xG wd a cs.length cap),u1,u2,u3,u4,u5,u6,u7,u8,u9,u10,u11,u12,u13,u14,u15,u16,u17,u18,u19,u20,u21],[]⟩ w:=by
 have HK:Hid (∀ w',xE w w'->Q .normal ⟨#[.agg (xG wd a cs.length cap),u1,u2,.bool true,u4,u5,u6,u7,u8,u9,u10,u11,u12,u13,u14,u15,u16,u17,u18,u19,u20,u21],[]⟩ w'):=hK
 unfold scG
 simp only[opr]
 go_wp2_with fail
 refine(zbK _ _ _ cs _ h qg).mono ?_
 rintro e w2 ⟨rfl,h0⟩
 rw[hk]
 go_wp2_with fail
 first|exact h0|exact HK.o _ h0
theorem zsi(wd:Int)(a:Od)(cap:Nat)(cs:Lp)(w:World)(h:zaf w a cs)(hm:cs.length<=1048576)(hl:0<cs.length)(M:Nat)(hM:zbV wd cs=(M:Int))(h8:M<=20)(u1 u2 u3 u4 u5 u6 u7 u8 u9 u10 u11 u12 u13 u14 u15 u16 u17 u18 u19 u20 u21:Value){Q:Exit->Act->Wq}(hK:∀(gc gl gf:Nat) (w':World),Own w' w.heap.size (.slice (xA gc) cs.length cs.length) cs->w'.heap[gl]?=some (.cells (madeCells #[J 0] M) 3)->w'.heap[gf]?=some (.cells (madeCells #[.slice none 0 0] M) 25)->w.heap.size<=gc->gc<gl->gl<gf->xE w w'->Q .normal ⟨#[.agg (xG wd a cs.length cap),u1,u2,u3,u4,u5,.agg (xG wd (xA gc) cs.length cs.length),J (M:Int),.slice (xA gl) M M,.slice (xA gf) M M,J (0),u11,u12,u13,u14,u15,u16,u17,u18,u19,u20,u21],[]⟩ w') :
  scA.wp SqP.prog Q ⟨#[.agg (xG wd a cs.length cap),u1,u2,u3,u4,u5,u6,u7,u8,u9,u10,u11,u12,u13,u14,u15,u16,u17,u18,u19,u20,u21],[]⟩ w:=by
 have he:=(zlI (aLt:=Sq.altP)) M qg
 have h9:=zhc M qg
 have HM:Hid (zbV wd cs=(M:Int)):=hM
 clear hM
 unfold scA
 simp only[opr]
 go_wp2_with fail
 refine(zce wd a cap cs w h hm hl).mono ?_
 rintro e w1 ⟨gc,rfl,h2,h0⟩
 have h5:=h0.size
 have h6:=h2.lt
 go_wp2_with fail
 refine(zdf wd a cap cs w1 (h.below h0) hm).mono ?_
 rintro e w2 ⟨rfl,h1⟩
 rw[HM.o]
 have hf:=h1.size
 have h3:=zae h0 h5 h1
 have h7:=h2.below h1
 go_wp2_with fail
 have h4:xE w2 ((w2.alloc (.cells (madeCells #[J 0] M) 3)).alloc (.cells (madeCells #[.slice none 0 0] M) 25)):=bel
 refine hK gc w2.heap.size (w2.heap.size+1) _ (h7.below h4) ?_ ?_ h6.1 qg qg (zae h3 h3.size h4)
 ·rw[Below.heap_alloc _ _ _ qm]
  exact heap_alloc_new w2 _
 ·have:=heap_alloc_new (w2.alloc (.cells (madeCells #[J 0] M) 3)) (.cells (madeCells #[.slice none 0 0] M) 25)
  simpa using this
theorem ztT(wd:Int)(a:Od)(cap:Nat)(cs:Lp)(w:World)(M gc gl gf:Nat)(u1 u2 u3 u4 u5 u11 u12 u13 u14 u15 u16 u17 u18 u19 u20 u21:Value){Q:Exit->Act->Wq}(hK:∀(a':Act) (w':World),a'.defers=[]->xE w w'->(results (zm5 Tryz.f54) a'.tmps).run SqP.prog w'=.ok (.tuple #[.agg (xH wd (xA gc) cs.length cs.length (xA gl) M M (xA gf) M M),.bool true]) w'->Q .ret a' w') :
  (Code.seq scZ .ret).wp SqP.prog Q ⟨#[.agg (xG wd a cs.length cap),u1,u2,u3,u4,u5,.agg (xG wd (xA gc) cs.length cs.length),J (M:Int),.slice (xA gl) M M,.slice (xA gf) M M,J ((M:Int)),u11,u12,u13,u14,u15,u16,u17,u18,u19,u20,u21],[]⟩ w:=by
 unfold scZ
 simp only[opr]
 go_wp2_with fail
 refine hK _ _ rfl bel ?_
 simp[results,SqP.results54,Tryz.results54,go_sem]
end Sp
namespace Sp
open Go.RowKit
structure zcO(w0 x:World)(l:List (Nat × Obj)):Prop where
 below:xE w0 x
 lies:∀ p∈l,x.heap[p.1]?=some p.2/\w0.heap.size<=p.1
 once:(l.map (·.1)).Nodup
theorem zcO.more{x':World}(h:zcO w0 x l)(hb:xE x x'){b:Nat}{o:Obj}(ho:x'.heap[b]?=some o)(hn:x.heap.size<=b):zcO w0 x' ((b,o)::l):=by
 have hz:=h.below.size
 refine⟨⟨hb.os.trans h.below.os,hb.tape.trans h.below.tape,hb.output.trans h.below.output,Nat.le_trans hz hb.size,fun k hk=>(hb.block k qg).trans (h.below.block k hk)⟩,fun p hp=>?_,?_⟩
 ·rcases List.mem_cons.1 hp with rfl|hp
  ·exact⟨ho,qg⟩
  ·have q:=h.lies p hp
   exact⟨(hb.block p.1 (gei q.1).1).trans q.1,q.2⟩
 ·rw[List.map_cons,List.nodup_cons]
  refine⟨fun hm=>?_,h.once⟩
  obtain⟨p,hp,e⟩:=List.mem_map.1 hm
  have:=(gei (h.lies p hp).1).1
  omega
theorem zcO.made(h:zcO w0 x l)(o:Obj):zcO w0 (x.alloc o) ((x.heap.size,o)::l) :=
 h.more ((Below.refl _ _).alloc (Nat.le_refl _) _) (heap_alloc_new _ _) (Nat.le_refl _)
theorem zsX{g c:Nat}(hp:0<cs.length)(h:Own x B (.slice (xA g) cs.length c) cs):∃ cur,B<=g/\x.heap[g]?=some (.cells cur 48)/\∀(y:World) (B':Nat),B'<=g->y.heap[g]?=some (.cells cur 48)->Own y B' (.slice (xA g) cs.length c) cs:=by
 obtain⟨h1,h2⟩:=h
 rcases h2 with ⟨q,_⟩|⟨g',cp,cur,q1,q2,q3,q4⟩
 ·exact absurd q qm
 ·simp only[Value.slice.injEq,Option.some.injEq,Addr.mk.injEq] at q1
  obtain⟨⟨rfl,_⟩,_,rfl⟩:=q1
  exact⟨cur,q2,q3,fun y B' hB hy=>⟨h1,.inr ⟨_,_,cur,rfl,hB,hy,q4⟩⟩⟩
theorem zuw{w:World}{b5 b1 i:Nat}{v0 v1 v2 v3:Value}(h:b5≠b1):((((w.setCell (O b5 0) v0).setCell (O b5 1) v1).setCell (O b5 2) v2).setCell (O b5 3) v3).cell? (O b1 i)=w.cell? (O b1 i):=by
 rw[World.cell?_setCell_far _ _ _ _ h,World.cell?_setCell_far _ _ _ _ h,World.cell?_setCell_far _ _ _ _ h,World.cell?_setCell_far _ _ _ _ h]
noncomputable abbrev ze4:Array Oper:=match Tryz.f50.body with|some (.seq _ (.seq _ (.seq _ (.seq (.region _ o _) _))))=>o|_=>#[]
def cn{α:Type}:Option α->Nat
 | none=>1
 | some _=>0
def vG(wd:Int)(n:Nat)(u:Value):Option (Nat × Nat × Array Value)->Value
 | none=>u
 | some p=>.agg (xG wd (xA p.1) n p.2.1)
def vS(M:Nat)(u:Value):Option Nat->Value
 | none=>u
 | some b=>.slice (xA b) M M
def vP(u:Value):Option Nat->Value
 | none=>u
 | some b=>.pointer (xA b)
def lG:Option (Nat × Nat × Array Value)->List (Nat × Obj)
 | none=>[]
 | some p=>[(p.1,.cells p.2.2 48)]
def lO(ob:Obj):Option Nat->List (Nat × Obj)
 | none=>[]
 | some b=>[(b,ob)]
theorem zcO.perm(h:zcO w0 x l)(p:l.Perm l'):zcO w0 x l' :=
 ⟨h.below,fun q hq=>h.lies q (p.mem_iff.2 hq),(p.map _).nodup_iff.1 h.once⟩
def rsO(i:Nat):Nat->List Nat
 | 0=>[]
 | _=>[i]
theorem zh8{i j k:Nat}(h:j∈rsO i k):j=i/\k≠0:=by
 cases k with
 | zero=>cases h
 | succ k=>exact⟨List.mem_singleton.1 h,qg⟩
theorem zfH{α:Type}{o:Option α}(h:cn o≠0):o=none:=by
 cases o with
 | none=>rfl
 | some _=>exact absurd rfl h
theorem zdX{α:Type}{o:Option α}(h:cn o=0):∃ p,o=some p:=by
 cases o with
 | none=>cases h
 | some p=>exact⟨p,rfl⟩
theorem ztO:∀(a b c d:Nat),a<=1->b<=1->c<=1->d<=1->a+b+c≠0->Region.ready .any ze4 #[true,a == 0,true,b == 0,true,c == 0,false,d == 0,false]=rsO 1 a++(rsO 3 b++(rsO 5 c++rsO 7 d)):=by
 intro a b c d ha hb hc hd h
 rcases (show a=0\/a=1 by omega) with rfl|rfl <;> rcases (show b=0\/b=1 by omega) with rfl|rfl <;> rcases (show c=0\/c=1 by omega) with rfl|rfl <;> rcases (show d=0\/d=1 by omega) with rfl|rfl
 all_goals first|exact absurd rfl h|kernel_rfl
theorem zqq{α:Type}(o:Option α):cn o<=1:=by cases o <;> simp[cn]
theorem zuI{wd:Int}(w0 x:World)(ga:Od)(cap M b1 rv:Nat)(hf:M<=20)(hp:0<cs.length)(hM:zcO w0 x [(rv,.cells xF 35),(b1,.cells (xG wd ga cs.length cap) 33)]){Q:Exit->Act->Wq}(hQ:∀ c a d v w,Q (.panic c) (Act.put a d v) w->Q (.panic c) a w)(h4:∀ y,xE w0 y->Calls SqP.prog 63 #[.agg (xG wd ga cs.length cap)] y fun e y'=>∃ g c,e=.returned (.agg (xG wd (xA g) cs.length c))/\Own y' y.heap.size (.slice (xA g) cs.length c) cs/\xE y y')(u0 u3 u5 u6 u7 u8 u9 u10 u11 u12 u13 u14 u15 u16 u17 u18 u19 u20 u21 u22 u23 u24 u25 u26 u27 u28:Value)(h7:∀(x:World) (gc c:Nat) (cur:Array Value) (bl bf b5:Nat),(∀(y:World) (B':Nat),B'<=gc->y.heap[gc]?=some (.cells cur 48)->Own y B' (.slice (xA gc) cs.length c) cs)->zcO w0 x ([(b5,(.cells xF 35)),(bf,(.cells (madeCells #[.slice none 0 0] M) 25)),(bl,(.cells (madeCells #[J 0] M) 3)),(gc,.cells cur 48)]++[(rv,.cells xF 35),(b1,.cells (xG wd ga cs.length cap) 33)])->Q .normal ⟨#[u0,.pointer (xA b1),.pointer (xA rv),u3,J (M:Int),.pointer (xA b5),u6,u7,u8,u9,u10,u11,u12,.agg (xG wd ga cs.length cap),.agg (xG wd (xA gc) cs.length c),J (M:Int),.slice (xA bl) M M,J (M:Int),.slice (xA bf) M M,.agg (xH wd (xA gc) cs.length c (xA bl) M M (xA bf) M M),u20,u21,u22,u23,u24,u25,u26,u27,u28],[]⟩ ((((x.setCell (O b5 0) (J wd)).setCell (O b5 1) (.slice (xA gc) cs.length c)).setCell (O b5 2) (.slice (xA bl) M M)).setCell (O b5 3) (.slice (xA bf) M M))) :
  (Code.region 4 ze4 true).wp SqP.prog Q ⟨#[u0,.pointer (xA b1),.pointer (xA rv),u3,J (M:Int),u5,u6,u7,u8,u9,u10,u11,u12,u13,u14,u15,u16,u17,u18,u19,u20,u21,u22,u23,u24,u25,u26,u27,u28],[]⟩ x:=by
 have hg:=(zlI (aLt:=Sq.altP)) M qg
 have hj:=zhc M qg
 have held:∀ {y:World} {l:List (Nat × Obj)},zcO w0 y l->(b1,.cells (xG wd ga cs.length cap) 33)∈l->(fun w=>w.cell? (O b1 0)=some (J wd)/\w.cell? (O b1 1)=some (.slice ga cs.length cap)) y:=fun hm hi=>⟨(cell_of_row _ _ 0 _ _ _ (hm.lies _ hi).1).trans rfl,(cell_of_row _ _ 1 _ _ _ (hm.lies _ hi).1).trans rfl⟩
 have leaf:∀(x:World) (gc c:Nat) (cur:Array Value) (bl bf b5:Nat),(∀(y:World) (B':Nat),B'<=gc->y.heap[gc]?=some (.cells cur 48)->Own y B' (.slice (xA gc) cs.length c) cs)->zcO w0 x ([(b5,(.cells xF 35)),(bf,(.cells (madeCells #[.slice none 0 0] M) 25)),(bl,(.cells (madeCells #[J 0] M) 3)),(gc,.cells cur 48)]++[(rv,.cells xF 35),(b1,.cells (xG wd ga cs.length cap) 33)])->(fun w=>w.cell? (O b1 0)=some (J wd)/\w.cell? (O b1 1)=some (.slice ga cs.length cap)) x->wpAnyH SqP.prog .any ze4 Q (fun w=>w.cell? (O b1 0)=some (J wd)/\w.cell? (O b1 1)=some (.slice ga cs.length cap)) 1 #[true,true,true,true,true,true,true,true,false] ⟨#[u0,.pointer (xA b1),.pointer (xA rv),u3,J (M:Int),.pointer (xA b5),u6,u7,u8,u9,u10,u11,u12,.agg (xG wd ga cs.length cap),.agg (xG wd (xA gc) cs.length c),J (M:Int),.slice (xA bl) M M,J (M:Int),.slice (xA bf) M M,.agg (xH wd (xA gc) cs.length c (xA bl) M M (xA bf) M M),u20,u21,u22,u23,u24,u25,u26,u27,u28],[]⟩ x:=by
  intro x gc c cur bl bf b5 h1 hM h0
  have h5:x.heap[b5]?=some (.cells xF 35):=(hM.lies (b5,(.cells xF 35)) qm).1
  have d0:x.cell? (O b5 0)=some (J 0):=(cell_of_row _ _ 0 _ _ _ h5).trans rfl
  have d1:x.cell? (O b5 1)=some (.slice none 0 0):=(cell_of_row _ _ 1 _ _ _ h5).trans rfl
  have d2:x.cell? (O b5 2)=some (.slice none 0 0):=(cell_of_row _ _ 2 _ _ _ h5).trans rfl
  have d3:x.cell? (O b5 3)=some (.slice none 0 0):=(cell_of_row _ _ 3 _ _ _ h5).trans rfl
  have f0:=frozen_of_row _ _ 0 _ _ h5
  have f1:=frozen_of_row _ _ 1 _ _ h5
  have f2:=frozen_of_row _ _ 2 _ _ h5
  have f3:=frozen_of_row _ _ 3 _ _ h5
  have h6:b5≠b1:=by have:=hM.once;simp at this;omega
  clear h5
  simp only[ze4,Tryz.f50]
  refine wpAnyH_ready (rs:=[8]) qh qm ?_
  refine AllReadyH.cons (o:={ dst:=none,op:=.store 35 (.tmp 5) (.tmp 19),type:=0,pos:= "l13_scene.go:19",after:=#[{ on:=7,ground:=.data },{ on:=6,ground:=.data },{ on:=1,ground:=.chain },{ on:=0,ground:=.phase },{ on:=1,ground:=.phase },{ on:=2,ground:=.phase },{ on:=3,ground:=.phase },{ on:=4,ground:=.phase },{ on:=5,ground:=.phase },{ on:=6,ground:=.phase },{ on:=7,ground:=.phase }],guard:=none }) rfl (fun K hK=>?_) AllReadyH.nil
  go_simp
  refine hK.out _ _ ?_ (fun h0=>?_)
  ·exact⟨(zuw h6).trans h0.1,(zuw h6).trans h0.2⟩
  clear hK K
  (try simp only[asl])
  refine wpAnyH_done qh ?_ _
  exact h7 x gc c cur bl bf b5 h1 hM
 have st:∀(k:Nat) (o1:Option (Nat × Nat × Array Value)) (o3 o5 o7:Option Nat) (x:World),cn o1+cn o3+cn o5+cn o7=k->(∀ p,o1=some p->∀(y:World) (B':Nat),B'<=p.1->y.heap[p.1]?=some (.cells p.2.2 48)->Own y B' (.slice (xA p.1) cs.length p.2.1) cs)->zcO w0 x (lO (.cells xF 35) o7++(lO (.cells (madeCells #[.slice none 0 0] M) 25) o5++(lO (.cells (madeCells #[J 0] M) 3) o3++(lG o1++[(rv,.cells xF 35),(b1,.cells (xG wd ga cs.length cap) 33)]))))->(fun w=>w.cell? (O b1 0)=some (J wd)/\w.cell? (O b1 1)=some (.slice ga cs.length cap)) x ->
   wpAnyH SqP.prog .any ze4 Q (fun w=>w.cell? (O b1 0)=some (J wd)/\w.cell? (O b1 1)=some (.slice ga cs.length cap)) (k+2) #[true,cn o1 == 0,true,cn o3 == 0,true,cn o5 == 0,false,cn o7 == 0,false] ⟨#[u0,.pointer (xA b1),.pointer (xA rv),u3,J (M:Int),vP u5 o7,u6,u7,u8,u9,u10,u11,u12,.agg (xG wd ga cs.length cap),vG wd cs.length u14 o1,J (M:Int),vS M u16 o3,J (M:Int),vS M u18 o5,u19,u20,u21,u22,u23,u24,u25,u26,u27,u28],[]⟩ x:=by
  intro k
  induction k with
  | zero =>
   intro o1 o3 o5 o7 x hk h1 hM h0
   obtain⟨⟨gc,c,cur⟩,rfl⟩:=zdX (o:=o1) qg
   obtain⟨bl,rfl⟩:=zdX (o:=o3) qg
   obtain⟨bf,rfl⟩:=zdX (o:=o5) qg
   obtain⟨b5,rfl⟩:=zdX (o:=o7) qg
   simp only[ze4,Tryz.f50,vG,vS,vP,cn,beq_self_eq_true]
   refine wpAnyH_take (i:=6) (oi:={ dst:=some 19,op:=.build 35 #[(0,.tmp 14),(1,.tmp 16),(2,.tmp 18)],type:=35,pos:= "l13_scene.go:19",after:=#[{ on:=1,ground:=.data },{ on:=3,ground:=.data },{ on:=5,ground:=.data }],guard:=none }) (v:=?vr1_6) rfl qh qh qh (fun _ _ _ h=>hQ _ _ _ _ _ h) (Or.inl ⟨by rfl,?hyr1_6⟩) qp ?restr1_6
   case hyr1_6=>(intro w h2;(try dsimp only at h2);go_simp;try (with_reducible rfl))
   (try simp only[Act.put,asl])
   exact leaf x gc c cur bl bf b5 (h1 _ rfl) hM h0
  | succ k ih =>
   intro o1 o3 o5 o7 x hk h1 hM h0
   by_cases h:cn o1+cn o3+cn o5=0
   ·obtain⟨⟨gc,c,cur⟩,rfl⟩:=zdX (o:=o1) qg
    obtain⟨bl,rfl⟩:=zdX (o:=o3) qg
    obtain⟨bf,rfl⟩:=zdX (o:=o5) qg
    obtain rfl:=zfH (o:=o7) qg
    obtain rfl:k=0:=by simp only[cn] at hk;omega
    simp only[ze4,Tryz.f50,vG,vS,vP,cn,beq_self_eq_true]
    refine wpAnyH_take (i:=6) (oi:={ dst:=some 19,op:=.build 35 #[(0,.tmp 14),(1,.tmp 16),(2,.tmp 18)],type:=35,pos:= "l13_scene.go:19",after:=#[{ on:=1,ground:=.data },{ on:=3,ground:=.data },{ on:=5,ground:=.data }],guard:=none }) (v:=?vr2_6) rfl qh qh qh (fun _ _ _ h=>hQ _ _ _ _ _ h) (Or.inl ⟨by rfl,?hyr2_6⟩) qp ?restr2_6
    case hyr2_6=>(intro w h2;(try dsimp only at h2);go_simp;try (with_reducible rfl))
    (try simp only[Act.put,asl])
    refine wpAnyH_ready (rs:=[7]) qh qm ?_
    refine AllReadyH.cons (o:={ dst:=some 5,op:=.alloc 35,type:=0,pos:= "l13_scene.go:19",after:=#[],guard:=none }) rfl (fun K hK=>?_) AllReadyH.nil
    go_simp
    replace hM:=hM.made (.cells xF 35)
    refine hK.out _ _ ?_ (fun h0=>?_)
    ·exact held hM qm
    clear hK K
    (try simp only[asl])
    exact leaf _ gc c cur bl bf _ (h1 _ rfl) hM h0
   ·refine wpAnyH_ready (rs:=_) (ztO _ _ _ _ (zqq _) (zqq _) (zqq _) (zqq _) h) (fun e=>?_) fun i hi=>?_
    ·have e0:=List.append_eq_nil_iff.1 e
     have e1:=List.append_eq_nil_iff.1 e0.2
     have e2:=List.append_eq_nil_iff.1 e1.2
     have z:∀ {i k:Nat},rsO i k=[]->k=0:=fun {i k} h=>by cases k with|zero=>rfl|succ=>cases h
     exact h (by rw[z e0.1,z e1.1,z e2.1])
    rcases List.mem_append.1 hi with hi|hi
    ·obtain⟨rfl,hn⟩:=zh8 hi
     obtain rfl:=zfH hn
     refine(AllReadyH.cons (o:={ dst:=some 14,op:=.call { callee:=.value (.func 63),args:=#[.tmp 13],argTypes:=#[33] },type:=33,pos:= "l13_scene.go:19",after:=#[{ on:=0,ground:=.data }],guard:=none }) rfl (fun K hK=>?_) AllReadyH.nil) _ (List.mem_singleton.2 rfl)
     go_simp
     go_at_call 63
     refine(h4 x hM.below).mono ?_
     rintro e y ⟨gc,c,rfl,hO,h8⟩
     obtain⟨cur,h9,he,hown'⟩:=zsX hp hO
     replace hM:=hM.more h8 he h9
     (try go_wp2_with fail)
     refine hK.out _ _ (held hM qm) (fun h0=>?_)
     clear hK K
     (try simp only[asl])
     exact ih (some (gc,c,cur)) o3 o5 o7 y (by simp only[cn] at hk ⊢;omega) (fun p e=>by obtain rfl:=Option.some.inj e;exact hown') (hM.perm (List.perm_middle.symm.trans (.append_left _ (List.perm_middle.symm.trans (.append_left _ (List.perm_middle.symm)))))) h0
    rcases List.mem_append.1 hi with hi|hi
    ·obtain⟨rfl,hn⟩:=zh8 hi
     obtain rfl:=zfH hn
     refine(AllReadyH.cons (o:={ dst:=some 16,op:=.makeSlice 25 (.tmp 15) (.tmp 15),type:=25,pos:= "l13_scene.go:19",after:=#[{ on:=2,ground:=.data },{ on:=2,ground:=.data }],guard:=none }) rfl (fun K hK=>?_) AllReadyH.nil) _ (List.mem_singleton.2 rfl)
     go_simp
     replace hM:=hM.made (.cells (madeCells #[J 0] M) 3)
     refine hK.out _ _ (held hM qm) (fun h0=>?_)
     clear hK K
     (try simp only[asl])
     exact ih o1 (some _) o5 o7 _ (by simp only[cn] at hk ⊢;omega) h1 (hM.perm (List.perm_middle.symm.trans (.append_left _ List.perm_middle.symm))) h0
    rcases List.mem_append.1 hi with hi|hi
    ·obtain⟨rfl,hn⟩:=zh8 hi
     obtain rfl:=zfH hn
     refine(AllReadyH.cons (o:={ dst:=some 18,op:=.makeSlice 26 (.tmp 17) (.tmp 17),type:=26,pos:= "l13_scene.go:19",after:=#[{ on:=4,ground:=.data },{ on:=4,ground:=.data }],guard:=none }) rfl (fun K hK=>?_) AllReadyH.nil) _ (List.mem_singleton.2 rfl)
     go_simp
     replace hM:=hM.made (.cells (madeCells #[.slice none 0 0] M) 25)
     refine hK.out _ _ (held hM qm) (fun h0=>?_)
     clear hK K
     (try simp only[asl])
     exact ih o1 o3 (some _) o7 _ (by simp only[cn] at hk ⊢;omega) h1 (hM.perm List.perm_middle.symm) h0
    ·obtain⟨rfl,hn⟩:=zh8 hi
     obtain rfl:=zfH hn
     refine(AllReadyH.cons (o:={ dst:=some 5,op:=.alloc 35,type:=0,pos:= "l13_scene.go:19",after:=#[],guard:=none }) rfl (fun K hK=>?_) AllReadyH.nil) _ (List.mem_singleton.2 rfl)
     go_simp
     replace hM:=hM.made (.cells xF 35)
     refine hK.out _ _ (held hM qm) (fun h0=>?_)
     clear hK K
     (try simp only[asl])
     exact ih o1 o3 o5 (some _) _ (by simp only[cn] at hk ⊢;omega) h1 (hM.perm (.refl _)) h0
 refine wp_region_held_drew (S:=(fun w=>w.cell? (O b1 0)=some (J wd)/\w.cell? (O b1 1)=some (.slice ga cs.length cap))) qh ?_ (fun h0=>?_)
 ·exact held (y:=x) (l:=[(rv,.cells xF 35),(b1,.cells (xG wd ga cs.length cap) 33)]) hM qm
 obtain⟨x0,h3⟩:∃ x0,x0=x.drew:=⟨_,rfl⟩
 rw[<- h3] at h0 ⊢
 replace hM:zcO w0 x0 [(rv,.cells xF 35),(b1,.cells (xG wd ga cs.length cap) 33)]:=by
  rw[h3]
  exact⟨⟨hM.below.os,hM.below.tape,hM.below.output,hM.below.size,hM.below.block⟩,hM.lies,hM.once⟩
 clear h3
 simp only[ze4,Tryz.f50]
 (try simp only[List.size_toArray,List.length_cons,List.length_nil,Nat.reduceAdd,Nat.zero_add])
 refine wpAnyH_take (i:=0) (oi:={ dst:=some 13,op:=.load 33 (.tmp 1),type:=33,pos:= "l13_scene.go:19",after:=#[],guard:=none }) (v:=?vr3_0) rfl qh qh qh (fun _ _ _ h=>hQ _ _ _ _ _ h) (Or.inl ⟨by rfl,?hyr3_0⟩) qp ?restr3_0
 case hyr3_0=>(intro w h2;(try dsimp only at h2);go_simp;try (with_reducible rfl))
 (try simp only[Act.put,asl])
 refine wpAnyH_take (i:=2) (oi:={ dst:=some 15,op:=.move (.tmp 4),type:=3,pos:= "l13_scene.go:19",after:=#[],guard:=none }) (v:=?vr4_2) rfl qh qh qh (fun _ _ _ h=>hQ _ _ _ _ _ h) (Or.inl ⟨by rfl,?hyr4_2⟩) qp ?restr4_2
 case hyr4_2=>(intro w h2;(try dsimp only at h2);go_simp;try (with_reducible rfl))
 (try simp only[Act.put,asl])
 refine wpAnyH_take (i:=4) (oi:={ dst:=some 17,op:=.move (.tmp 4),type:=3,pos:= "l13_scene.go:19",after:=#[],guard:=none }) (v:=?vr5_4) rfl qh qh qh (fun _ _ _ h=>hQ _ _ _ _ _ h) (Or.inl ⟨by rfl,?hyr5_4⟩) qp ?restr5_4
 case hyr5_4=>(intro w h2;(try dsimp only at h2);go_simp;try (with_reducible rfl))
 (try simp only[Act.put,asl])
 exact st 4 none none none none x0 rfl (fun _ e=>by cases e) hM h0
