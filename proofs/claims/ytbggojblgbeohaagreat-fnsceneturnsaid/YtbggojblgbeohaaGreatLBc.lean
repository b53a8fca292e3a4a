/- Part. -/
import Derived.Deep.QuietTactic
import Derived.Deep.DrawnRows
import Derived.Test.YtbggojblgbeohaaGreatLAz
set_option maxHeartbeats 1000000
set_option linter.unusedVariables false
namespace Go.Proofs.YtbggojblgbeohaaGreat
variable{cs:List (Int × Int)}{P:Program}{w:World}
namespace Sp
variable{aLt:Nat->Func->Func}
open Go.RowKit
theorem znJ{ops:Array Oper}{rest:List Oper}{o:Oper}{a:Act}{Q:Exit->Act->World->Prop}(hgd:o.guard=none)(d s:Operand)(dT sT:TypeId)(ho:o.op=.call { callee:=.builtin .copy,args:=#[d,s],argTypes:=#[dT,sT] })(e:TypeId)(hu:P.underlying dT=some (.slice e))(hsz:(P.info? e).map (·.size)=some 2)(B g n cap:Nat)(xs:List Value)(ad:Addr)(sCap:Nat)(hd:a.eval d=.slice (some ⟨g,0,none⟩) n cap)(hs:a.eval s=.slice (some ad) n sCap)(hown:w.ownsRow B e 2 (.slice (some ⟨g,0,none⟩) n cap) n xs)(cs:List Value)(hn:cs.length=n * 2)(hsrc:∀ j v,cs[j]?=some v->w.cell? (ad.add j)=some v)(h1:∀ v∈cs,v.oneCell'=true)(h:∀ w',w'.ownsRow B e 2 (.slice (some ⟨g,0,none⟩) n cap) n cs->w.grownBy w' (some g)->wpList P ops Q rest (a.put o.dst (goInt n)) w'):wpList P ops Q (o::rest) a w:=by
 obtain⟨hx,hr⟩:=hown
 rcases hr with ⟨h0,_⟩|⟨g',cap',cur,hv,hB,hg,hc1,hc2,hc3,htake⟩
 ·simp at h0
 ·simp only[Value.slice.injEq,Option.some.injEq,Addr.mk.injEq,and_true,true_and] at hv
  obtain⟨rfl,rfl⟩:=hv
  refine wpList_plain hgd fun K hK=>?_
  have hl:=run_loadCells_list (P:=P) w ad cs hsrc
  have hfit:n * 2<=cur.size:=by rw[hc3];exact Nat.mul_le_mul_right 2 hc1
  have hst:=run_storeCells_at P g 0 e cs 0 cur w hg (by simp[hn];exact hfit) h1
  have hrun:(Builtin.copy_ #[dT,sT] o.type #[.slice (some ⟨g,0,none⟩) n cap,.slice (some ad) n sCap]).run P w=.ok (goInt n) (w.setRow g (cur.toList.take 0++cs++cur.toList.drop (0+cs.length)).toArray):=by
   cases hq:P.info? e with
   | none=>simp[hq] at hsz
   | some i =>
    have hi:i.size=2:=by simpa [hq] using hsz
    rw[hn] at hl
    simp only[Nat.add_zero] at hst
    simp[Builtin.copy_,run_underlying hu,Builtin.lenOf,Builtin.firstCells,sizeOf,typeInfo,hq,hi,hl,hst]
  unfold Oper.wp
  simp only[execOp,ho]
  simp[resolve,invoke,builtin,hd,hs,hrun,Result.andThen]
  refine hK _ _ ?_
  have hset:=setRow_heap w g cur (cs++cur.toList.drop cs.length).toArray e (0,0) hg
  have hlen:(cs++cur.toList.drop cs.length).length=cap * 2:=by
   have hcl:cur.toList.length=cap * 2:=by simpa using hc3
   simp only[List.length_append,List.length_drop]
   rw[hcl,hn]
   have:=Nat.mul_le_mul_right 2 hc1
   omega
  have:=h (w.setRow g (cs++cur.toList.drop cs.length).toArray) ⟨hn,Or.inr ⟨g,cap,_,rfl,hB,hset,hc1,hc2,by simpa using hlen,by rw[<- hn];simp⟩⟩
   ⟨rfl,rfl,rfl,by simp[World.setRow],fun k _ hk=>setRow_other w g k _ (fun ek=>hk (by simp[ek]))⟩
  simpa using this
theorem Own.other{B g n cap:Nat}(h:Own w B (.slice (some ⟨g,0,none⟩) n cap) cs){p:Addr}(hne:g≠p.block)(u:Value):Own (w.setCell p u) B (.slice (some ⟨g,0,none⟩) n cap) cs:=by
 obtain⟨h1,h2⟩:=h
 refine⟨h1,?_⟩
 rcases h2 with ⟨h2,_⟩|⟨g',cap',cur,hv,hg,hh,r⟩
 ·simp at h2
 ·have hv':=hv
  simp only[Value.slice.injEq,Option.some.injEq,Addr.mk.injEq,and_true] at hv'
  exact Or.inr ⟨g',cap',cur,hv,hg,by rw[Below.heap_setCell _ _ _ _ (by rw[<- hv'.1];exact hne)];exact hh,r⟩
theorem zqM:((SqG.prog aLt).info? 50).map (·.size)=some 2:=by kernel_rfl
theorem zlk(cs:List (Int × Int)):∀ v∈flat cs,v.oneCell'=true:=by
 intro v hv
 simp only[flat,List.mem_flatMap,List.mem_cons,List.not_mem_nil,or_false] at hv
 obtain⟨c,_,rfl|rfl⟩:=hv <;> rfl
theorem ziS{b off:Nat}(h:∀ i,i<cs.length->w.cell? ⟨b,off+i * 2,none⟩=some (.int .i64 (cs.getD i (0,0)).1)/\w.cell? ⟨b,off+i * 2+1,none⟩=some (.int .i64 (cs.getD i (0,0)).2)) :
  ∀ j v,(flat cs)[j]?=some v->w.cell? ((⟨b,off,none⟩:Addr).add j)=some v:=by
 intro j v hv
 have hadd:(⟨b,off,none⟩:Addr).add j=⟨b,off+j,none⟩:=by unfold Addr.add;split <;> simp_all
 rw[hadd]
 have hj:j<cs.length * 2:=by
  rw[<- zfv]
  exact(List.getElem?_eq_some_iff.1 hv).1
 have hi:j / 2<cs.length:=by omega
 have hf:=zhW cs (j / 2) hi
 have hc:=h (j / 2) hi
 rcases (show j=j / 2 * 2\/j=j / 2 * 2+1 by omega) with e|e
 ·rw[<- e] at hf hc
  rw[hf.1] at hv
  rw[hc.1];exact hv
 ·rw[<- e] at hf
  rw[hf.2] at hv
  rw[Nat.add_assoc,<- e] at hc
  rw[hc.2];exact hv
end Sp
namespace Sp
open Go.RowKit
theorem zi0(W H:Nat)(a:Option Addr)(n cap:Nat)(w:World)(hW:1<=W)(hn:n<=1048576)(hH:n / W=H) :
  Calls SqP.prog 26 #[.agg #[.int .i64 (W:Int),.slice a n cap]] w fun e w'=>e=.returned (.int .i64 (H:Int))/\Below w.heap.size w w':=by
 have h0:(0:Int)<=(n:Int) / (W:Int):=Int.ediv_nonneg (by omega) (by omega)
 have h1:(n:Int) / (W:Int)<=n:=Int.ediv_le_self _ (by omega)
 have hw:(1:Int)<=(W:Int):=by omega
 have HH:Hid ((n:Int) / (W:Int)=(H:Int)):=by show _=_;rw[<- hH];simp
 clear hH
 go_enter SqP.func26,Tryz.ntmps26
 go_wp2
 go_ret
 exact⟨by rw[<- HH.out];rfl,bel⟩
theorem zfk(W H:Nat)(b off cap:Nat)(cs:List (Int × Int))(w:World)(hbl:b<w.heap.size)(hcell:∀ i,i<cs.length->w.cell? ⟨b,off+i * 2,none⟩=some (.int .i64 (cs.getD i (0,0)).1)/\w.cell? ⟨b,off+i * 2+1,none⟩=some (.int .i64 (cs.getD i (0,0)).2))(hok:okG (W:Int) cs=true)(hW:1<=W/\W<=5)(hH:1<=H/\H<=5)(hn:cs.length=W * H) :
  Calls SqP.prog 8 #[.agg #[.int .i64 (W:Int),.slice (some ⟨b,off,none⟩) cs.length cap]] w fun e w'=>∃ g,e=.returned (.agg #[.int .i64 (H:Int),.slice (some ⟨g,0,none⟩) cs.length cs.length])/\Own w' w.heap.size (.slice (some ⟨g,0,none⟩) cs.length cs.length) (zk4 W H cs)/\Below w.heap.size w w':=by
 obtain⟨i0,hi,iz0,iz1,iz2⟩:=info_parts (zdh (aLt:=Sq.altP))
 have hlen:1<=cs.length/\cs.length<=25:=by
  obtain⟨a1,a2⟩:=hW
  obtain⟨a3,a4⟩:=hH
  rw[hn]
  rcases (show W=1\/W=2\/W=3\/W=4\/W=5 by omega) with rfl|rfl|rfl|rfl|rfl <;> omega
 have hdiv:cs.length / W=H:=by rw[hn];exact Nat.mul_div_cancel_left H (by omega)
 have HN:Hid (cs.length=W * H):=hn
 have HD:Hid (cs.length / W=H):=hdiv
 clear hn hdiv
 go_enter SqP.func8,Tryz.ntmps8
 go_wp2_with fail
 refine(zao _ _ _ cs _ (Or.inr ⟨b,off,rfl,by simp;omega,fun i hi=>by rw[World.cell?_alloc_past _ _ _ (by simp;omega),World.cell?_alloc_past _ _ _ (by omega),World.cell?_alloc_past _ _ _ (by simp;omega),World.cell?_alloc_past _ _ _ (by omega)];exact hcell i hi⟩) (by omega)).mono ?_
 rintro e w1 ⟨rfl,hb1⟩
 have hz1:=hb1.size
 simp at hz1
 have hB1:Below w.heap.size w w1:=zak bel (by simp;omega) hb1
 have p0:w1.cell? ⟨w.heap.size,0,none⟩=some (.int .i64 (W:Int)):=zab hb1 (by simp[go_sem])
 have p1:w1.cell? ⟨w.heap.size,1,none⟩=some (.slice (some ⟨b,off,none⟩) cs.length cap):=zab hb1 (by simp[go_sem])
 have p4:w1.cell? ⟨w.heap.size+1,0,none⟩=some (.int .i64 0):=zab hb1 (by simp[go_sem])
 have p5:w1.cell? ⟨w.heap.size+1,1,none⟩=some (.slice none 0 0):=zab hb1 (by simp[go_sem])
 have f4:w1.frozen? ⟨w.heap.size+1,0,none⟩=false:=zaj hb1 (v:=.int .i64 0) (by simp[go_sem]) (by simp[go_sem])
 have f5:w1.frozen? ⟨w.heap.size+1,1,none⟩=false:=zaj hb1 (v:=.slice none 0 0) (by simp[go_sem]) (by simp[go_sem])
 clear hb1
 go_wp2_with fail
 refine(zi0 W H _ _ _ _ (by omega) (by omega) HD.out).mono ?_
 rintro e w2 ⟨rfl,hb2⟩
 have hz2:=hb2.size
 have hB2:Below w.heap.size w w2:=zak hB1 (by omega) hb2
 replace f4:=zaj hb2 p4 f4;replace f5:=zaj hb2 p5 f5;replace p0:=zab hb2 p0;replace p1:=zab hb2 p1;replace p4:=zab hb2 p4;replace p5:=zab hb2 p5
 clear hb2
 go_wp2_with (at_make;refine wpList_make_full _ rfl _ _ 23 rfl w.heap.size 50 i0 (.agg #[.int .i64 0,.int .i64 0]) 2 SqP.underlying23 hi iz0 iz1 .i64 .i64 _ _ cs.length rfl rfl rfl rfl ?_ ?_ ?_ ?_)
 ·rw[iz2];omega
 ·unfold maxLen;omega
 ·omega
 intro w3 hO3' hg3
 have hb3:Below w2.heap.size w2 w3:=(Below.refl _ _).grown hg3 (Nat.le_refl _) (fun k hk=>by cases hk)
 have hz3:=hb3.size
 have hB3:Below w.heap.size w w3:=zak hB2 (by omega) hb3
 replace f4:=zaj hb3 p4 f4;replace f5:=zaj hb3 p5 f5;replace p0:=zab hb3 p0;replace p1:=zab hb3 p1;replace p4:=zab hb3 p4;replace p5:=zab hb3 p5
 have hO3:Own w3 w.heap.size (.slice (some ⟨w2.heap.size,0,none⟩) cs.length cs.length) (List.replicate cs.length (0,0)):=by
  unfold Own
  rw[List.length_replicate,<- zlz]
  exact hO3'
 clear hg3 hb3 hO3'
 go_wp2
 go_loopw [22] (fun i wr=>∃ k:Nat,k<=cs.length/\i=.int .i64 k/\Own wr w.heap.size (.slice (some ⟨w2.heap.size,0,none⟩) cs.length cs.length) ((List.range cs.length).map fun j=>if zaO W H j<k then (fun m=>other (cs.getD m (0,0))) (zaO W H j) else (0,0))/\Below w.heap.size w wr/\wr.cell? ⟨w.heap.size,0,none⟩=some (.int .i64 (W:Int))/\wr.cell? ⟨w.heap.size+1,0,none⟩=some (.int .i64 0)/\wr.cell? ⟨w.heap.size+1,1,none⟩=some (.slice none 0 0)/\wr.frozen? ⟨w.heap.size+1,0,none⟩=false/\wr.frozen? ⟨w.heap.size+1,1,none⟩=false) (fun i _=>cs.length - (intOf i).toNat)
 case atStart=>exact⟨0,Nat.zero_le _,rfl,by simpa [List.map_const'] using hO3,hB3,p0,p4,p5,f4,f5⟩
 case round =>
  clear hO3 p0 p1 p4 p5 f4 f5
  obtain⟨k,hk,rfl,hO,hb,p0,p4,p5,f4,f5⟩:=hrel
  by_cases hlt:k<cs.length
  ·obtain⟨hx,hy⟩:=hcell k hlt
   rw[<- hb.cell (p:=⟨b,_,none⟩) hbl] at hx hy
   have s0:w.heap.size<wr.heap.size:=World.block_lt_of_cell? wr _ p0
   have s1:w.heap.size+1<wr.heap.size:=World.block_lt_of_cell? wr _ p4
   have s2:=hO.lt.2
   have hw1:(1:Int)<=(W:Int):=by omega
   have hk0:(0:Int)<=(k:Int):=by omega
   have ht:=zeX W H k hW hH (by rw[<- HN.out];exact hlt)
   have t1:k / W<H:=ht.2.2.1
   have t2:k % W * H+H - 1 - k / W<cs.length:=by have:=ht.1;rw[HN.out];exact this
   have d1:(0:Int)<=(k:Int) / (W:Int):=Int.ediv_nonneg hk0 (by omega)
   have d2:(k:Int) / (W:Int)<=(H:Int) - 1:=by rw[show (k:Int) / (W:Int)=((k / W:Nat):Int) by simp];omega
   have e0:((k % W * H:Nat):Int)=(k:Int) % (W:Int) * (H:Int):=by simp
   have e1:(0:Int)<=(k:Int) % (W:Int) * (H:Int):=by omega
   have e2:(k:Int) % (W:Int) * (H:Int)<=25:=by omega
   have JJ:Hid (((k:Int) % (W:Int) * (H:Int)+(H:Int) - 1 - (k:Int) / (W:Int))=((k % W * H+H - 1 - k / W:Nat):Int)):=by
    show _=_
    have:((k / W:Nat):Int)=(k:Int) / (W:Int):=by simp
    omega
   have i2:(k:Int) % (W:Int) * (H:Int)+(H:Int) - 1 - (k:Int) / (W:Int)<(cs.length:Int):=by have:=JJ.out;omega
   clear ht e0
   go_wp2
   go_quiet (fail)
   go_wp2_with fail
   refine(ze3 _ _ _ (zil _ _ hok k hlt)).mono ?_
   rintro e w4 ⟨rfl,hb4'⟩
   have hb4:Below wr.heap.size wr w4:=zak ((Below.refl _ _).alloc (Nat.le_refl _) _) (by simp) (znw hb4')
   clear hb4'
   replace f4:=zaj hb4 p4 f4;replace f5:=zaj hb4 p5 f5;replace p0:=zab hb4 p0;replace p4:=zab hb4 p4;replace p5:=zab hb4 p5
   have hO4:=hO.below hb4
   obtain⟨c1,c2,g1,g2⟩:=hO4.cell (by simp) (k % W * H+H - 1 - k / W) t2
   have HS:=hO4.set (by simp) (k % W * H+H - 1 - k / W) (za0 cs[k].1) cs[k].2 t2
   clear hO hO4
   have n1:w.heap.size≠w2.heap.size:=by omega
   have n2:w.heap.size+1≠w2.heap.size:=by omega
   have HT:Hid (((List.range cs.length).map fun j=>if zaO W H j<k then (fun m=>other (cs.getD m (0,0))) (zaO W H j) else (0,0)).set (k % W * H+H - 1 - k / W) (za0 cs[k].1,cs[k].2)=(List.range cs.length).map fun j=>if zaO W H j<k+1 then (fun m=>other (cs.getD m (0,0))) (zaO W H j) else (0,0)):=by
    show _=_
    rw[<- zoU cs.length k (zaO W H) (fun k=>k % W * H+H - 1 - k / W) (fun m=>other (cs.getD m (0,0))) (0,0) hlt t2 (fun j hj=>zfO W H j k hW hH (by rw[<- HN.out];exact hj) (by rw[<- HN.out];exact hlt))]
    simp[other,hlt]
   rw[HT.out] at HS
   have hbb:=hb4.mono (B':=w.heap.size) (by omega)
   go_wp2
   go_roundw
   case rel=>exact⟨k+1,by omega,by go_num,HS,((hb.trans hbb).setCell (p:=⟨w2.heap.size,_,none⟩) (by show w.heap.size<=w2.heap.size;omega) _).setCell (p:=⟨w2.heap.size,_,none⟩) (by show w.heap.size<=w2.heap.size;omega) _,zcd n1 (zcd n1 p0),zcd n2 (zcd n2 p4),zcd n2 (zcd n2 p5),zgU n2 (zgU n2 f4),zgU n2 (zgU n2 f5)⟩
   case measure=>simp[intOf];omega
  ·have hkn:k=cs.length:=by omega
   subst hkn
   have hT:((List.range cs.length).map fun j=>if zaO W H j<cs.length then (fun m=>other (cs.getD m (0,0))) (zaO W H j) else (0,0))=zk4 W H cs:=by
    unfold zk4
    apply List.map_congr_left
    intro j hj
    rw[if_pos (by rw[HN.out];exact(zeX W H j hW hH (by rw[<- HN.out];exact List.mem_range.1 hj)).2.1)]
   rw[hT] at hO
   have s2:=hO.lt.2
   have n2:w2.heap.size≠w.heap.size+1:=by omega
   clear hT
   go_wp2
   refine bodyPost_ret (v:=.agg #[.int .i64 (H:Int),.slice (some ⟨w2.heap.size,0,none⟩) cs.length cs.length]) (by simp[results,Tryz.results8,go_sem,p4,p5]) rfl ⟨_,rfl,?_,?_⟩
   ·exact(hO.other (p:=⟨w.heap.size+1,0,none⟩) n2 _).other (p:=⟨w.heap.size+1,1,none⟩) n2 _
   ·exact(hb.setCell (p:=⟨w.heap.size+1,0,none⟩) (by simp) _).setCell (p:=⟨w.heap.size+1,1,none⟩) (by simp) _
end Sp
namespace Sp
open Go.RowKit
attribute [local go_sem ↓] Go.wp_at_zero Go.wp_at_succ
set_option maxRecDepth 100000 in
theorem zfi(W H:Nat)(b off cap:Nat)(cs:List (Int × Int))(w:World)(hbl:b<w.heap.size)(hcell:∀ i,i<cs.length->w.cell? ⟨b,off+i * 2,none⟩=some (.int .i64 (cs.getD i (0,0)).1)/\w.cell? ⟨b,off+i * 2+1,none⟩=some (.int .i64 (cs.getD i (0,0)).2))(hok:okG (W:Int) cs=true)(hW:1<=W/\W<=5)(hH:1<=H/\H<=5)(hn:cs.length=W * H) :
  Calls SqP.prog 9 #[.agg #[.int .i64 (W:Int),.slice (some ⟨b,off,none⟩) cs.length cap]] w fun e w'=>∃ g,e=.returned (.agg #[.int .i64 (W:Int),.slice (some ⟨g,0,none⟩) cs.length cs.length])/\Own w' w.heap.size (.slice (some ⟨g,0,none⟩) cs.length cs.length) (zkj W cs)/\Below w.heap.size w w':=by
 obtain⟨i0,hi,iz0,iz1,iz2⟩:=info_parts (zdh (aLt:=Sq.altP))
 have hlen:1<=cs.length/\cs.length<=25:=by
  obtain⟨a1,a2⟩:=hW
  obtain⟨a3,a4⟩:=hH
  rw[hn]
  rcases (show W=1\/W=2\/W=3\/W=4\/W=5 by omega) with rfl|rfl|rfl|rfl|rfl <;> omega
 have hdiv:cs.length / W=H:=by rw[hn];exact Nat.mul_div_cancel_left H (by omega)
 have HN:Hid (cs.length=W * H):=hn
 have HD:Hid (cs.length / W=H):=hdiv
 clear hn hdiv
 go_enter SqP.func9,Tryz.ntmps9
 go_wp2_with fail
 refine(zao _ _ _ cs _ (Or.inr ⟨b,off,rfl,by simp;omega,fun i hi=>by rw[World.cell?_alloc_past _ _ _ (by simp;omega),World.cell?_alloc_past _ _ _ (by omega),World.cell?_alloc_past _ _ _ (by simp;omega),World.cell?_alloc_past _ _ _ (by omega)];exact hcell i hi⟩) (by omega)).mono ?_
 rintro e w1 ⟨rfl,hb1⟩
 have hz1:=hb1.size
 simp at hz1
 have hB1:Below w.heap.size w w1:=zak bel (by simp;omega) hb1
 have p0:w1.cell? ⟨w.heap.size,0,none⟩=some (.int .i64 (W:Int)):=zab hb1 (by simp[go_sem])
 have p1:w1.cell? ⟨w.heap.size,1,none⟩=some (.slice (some ⟨b,off,none⟩) cs.length cap):=zab hb1 (by simp[go_sem])
 have p4:w1.cell? ⟨w.heap.size+1,0,none⟩=some (.int .i64 0):=zab hb1 (by simp[go_sem])
 have p5:w1.cell? ⟨w.heap.size+1,1,none⟩=some (.slice none 0 0):=zab hb1 (by simp[go_sem])
 have f4:w1.frozen? ⟨w.heap.size+1,0,none⟩=false:=zaj hb1 (v:=.int .i64 0) (by simp[go_sem]) (by simp[go_sem])
 have f5:w1.frozen? ⟨w.heap.size+1,1,none⟩=false:=zaj hb1 (v:=.slice none 0 0) (by simp[go_sem]) (by simp[go_sem])
 clear hb1
 go_wp2_with (at_make;refine wpList_make_full _ rfl _ _ 23 rfl w.heap.size 50 i0 (.agg #[.int .i64 0,.int .i64 0]) 2 SqP.underlying23 hi iz0 iz1 .i64 .i64 _ _ cs.length rfl rfl rfl rfl ?_ ?_ ?_ ?_)
 ·rw[iz2];omega
 ·unfold maxLen;omega
 ·omega
 intro w3 hO3' hg3
 have hb3:Below w1.heap.size w1 w3:=(Below.refl _ _).grown hg3 (Nat.le_refl _) (fun k hk=>by cases hk)
 have hz3:=hb3.size
 have hB3:Below w.heap.size w w3:=zak hB1 (by omega) hb3
 replace f4:=zaj hb3 p4 f4;replace f5:=zaj hb3 p5 f5;replace p0:=zab hb3 p0;replace p1:=zab hb3 p1;replace p4:=zab hb3 p4;replace p5:=zab hb3 p5
 have hO3:Own w3 w.heap.size (.slice (some ⟨w1.heap.size,0,none⟩) cs.length cs.length) (List.replicate cs.length (0,0)):=by
  unfold Own
  rw[List.length_replicate,<- zlz]
  exact hO3'
 clear hg3 hb3 hO3'
 go_wp2
 go_loopw [19] (fun i wr=>∃ k:Nat,k<=cs.length/\i=.int .i64 k/\Own wr w.heap.size (.slice (some ⟨w1.heap.size,0,none⟩) cs.length cs.length) ((List.range cs.length).map fun j=>if zaN W j<k then (fun m=>other (cs.getD m (0,0))) (zaN W j) else (0,0))/\Below w.heap.size w wr/\wr.cell? ⟨w.heap.size,0,none⟩=some (.int .i64 (W:Int))/\wr.cell? ⟨w.heap.size+1,0,none⟩=some (.int .i64 0)/\wr.cell? ⟨w.heap.size+1,1,none⟩=some (.slice none 0 0)/\wr.frozen? ⟨w.heap.size+1,0,none⟩=false/\wr.frozen? ⟨w.heap.size+1,1,none⟩=false) (fun i _=>cs.length - (intOf i).toNat)
 case atStart=>exact⟨0,Nat.zero_le _,rfl,by simpa [List.map_const'] using hO3,hB3,p0,p4,p5,f4,f5⟩
 case round =>
  clear hO3 p0 p1 p4 p5 f4 f5
  obtain⟨k,hk,rfl,hO,hb,p0,p4,p5,f4,f5⟩:=hrel
  by_cases hlt:k<cs.length
  ·obtain⟨hx,hy⟩:=hcell k hlt
   rw[<- hb.cell (p:=⟨b,_,none⟩) hbl] at hx hy
   have s0:w.heap.size<wr.heap.size:=World.block_lt_of_cell? wr _ p0
   have s1:w.heap.size+1<wr.heap.size:=World.block_lt_of_cell? wr _ p4
   have s2:=hO.lt.2
   have hw1:(1:Int)<=(W:Int):=by omega
   have hk0:(0:Int)<=(k:Int):=by omega
   have hnW:cs.length % W=0:=by rw[HN.out];exact Nat.mul_mod_right W H
   have ht:=zeK W k cs.length hW hnW hlt
   have t2:k / W * W+W - 1 - k % W<cs.length:=ht.1
   have t3:k % W<W:=ht.2.2
   have d0:((k / W:Nat):Int)=(k:Int) / (W:Int):=by simp
   have d3:((k % W:Nat):Int)=(k:Int) % (W:Int):=by simp
   have d1:(0:Int)<=(k:Int) / (W:Int):=Int.ediv_nonneg hk0 (by omega)
   have d2:(k:Int) / (W:Int)<=(k:Int):=Int.ediv_le_self _ hk0
   have m1:(0:Int)<=(k:Int) % (W:Int):=by omega
   have m2:(k:Int) % (W:Int)<=4:=by omega
   have e0:((k / W * W:Nat):Int)=(k:Int) / (W:Int) * (W:Int):=by simp
   have e3:k / W * W<=k:=Nat.div_mul_le_self k W
   have e1:(0:Int)<=(k:Int) / (W:Int) * (W:Int):=by omega
   have e2:(k:Int) / (W:Int) * (W:Int)<=25:=by omega
   have JJ:((k:Int) / (W:Int) * (W:Int)+(W:Int) - 1 - (k:Int) % (W:Int))=((k / W * W+W - 1 - k % W:Nat):Int):=by omega
   have ib:(0:Int)<=(k:Int) / (W:Int) * (W:Int)+(W:Int) - 1 - (k:Int) % (W:Int):=by omega
   have i2:(k:Int) / (W:Int) * (W:Int)+(W:Int) - 1 - (k:Int) % (W:Int)<(cs.length:Int):=by omega
   have v1:IntKind.i64.wrap ((k:Int) / (W:Int) * (W:Int))=(k:Int) / (W:Int) * (W:Int):=IntWalk.i64_in _ (by omega)
   have v2:IntKind.i64.wrap ((k:Int) / (W:Int) * (W:Int)+(W:Int))=(k:Int) / (W:Int) * (W:Int)+(W:Int):=IntWalk.i64_in _ (by omega)
   have v3:IntKind.i64.wrap ((k:Int) / (W:Int) * (W:Int)+(W:Int) - 1)=(k:Int) / (W:Int) * (W:Int)+(W:Int) - 1:=IntWalk.i64_in _ (by omega)
   have v4:IntKind.i64.wrap ((k:Int) / (W:Int) * (W:Int)+(W:Int) - 1 - (k:Int) % (W:Int))=(k:Int) / (W:Int) * (W:Int)+(W:Int) - 1 - (k:Int) % (W:Int):=IntWalk.i64_in _ (by omega)
   have v5:((k:Int) / (W:Int) * (W:Int)+(W:Int) - 1 - (k:Int) % (W:Int)).toNat=k / W * W+W - 1 - k % W:=by omega
   obtain⟨kx,lx,hkl⟩:∃ kx lx:Int,cs.getD k (0,0)=(kx,lx):=⟨_,_,rfl⟩
   rw[hkl] at hx hy
   have hokk:okC kx lx=true:=by
    have:=zil _ _ hok k hlt
    rw[show cs[k]=cs.getD k (0,0) by simp[hlt],hkl] at this
    exact this
   have HT:Hid (((List.range cs.length).map fun j=>if zaN W j<k then (fun m=>other (cs.getD m (0,0))) (zaN W j) else (0,0)).set (k / W * W+W - 1 - k % W) (za0 kx,lx)=(List.range cs.length).map fun j=>if zaN W j<k+1 then (fun m=>other (cs.getD m (0,0))) (zaN W j) else (0,0)):=by
    show _=_
    rw[<- zoU cs.length k (zaN W) (fun k=>k / W * W+W - 1 - k % W) (fun m=>other (cs.getD m (0,0))) (0,0) hlt t2 (fun j hj=>zfw W j k cs.length hW hnW hj hlt)]
    simp only[hkl,other]
   have n1:w.heap.size≠w1.heap.size:=by omega
   have n2:w.heap.size+1≠w1.heap.size:=by omega
   have nr:wr.heap.size≠w1.heap.size:=by omega
   have JJ2:=JJ
   clear d0 d3 e0 e3 ht hkl hnW JJ JJ2
   go_wp2
   go_quiet (fail)
   go_wp2_with fail
   go_region_with (first
     | (go_at_call 27;refine(ze3 _ _ _ hokk).mono ?_;rintro e w4 ⟨rfl,hb4'⟩;have hb4:Below wr.heap.size wr w4:=zak ((Below.refl _ _).alloc (Nat.le_refl _) _) (by simp) (by first|exact znw hb4'|exact znw (zbw hb4'));have b0':w4.cell? ⟨wr.heap.size,0,none⟩=some (.int .i64 kx):=zab hb4' (by simp[go_sem]);have b1':w4.cell? ⟨wr.heap.size,1,none⟩=some (.int .i64 lx):=zab hb4' (by simp[go_sem]);have p0':=zab hb4 p0;have hO4:=hO.below hb4;obtain⟨c1,c2,g1,g2⟩:=hO4.cell (by simp) (k / W * W+W - 1 - k % W) t2))
   all_goals
    have HS:=hO4.set (by simp) (k / W * W+W - 1 - k % W) (za0 kx) lx t2
    rw[HT.out] at HS
    have hbb:=hb4.mono (B':=w.heap.size) (by omega)
    replace f4:=zaj hb4 p4 f4;replace f5:=zaj hb4 p5 f5;replace p4:=zab hb4 p4;replace p5:=zab hb4 p5
    go_wp2
    go_roundw
    case rel=>exact⟨k+1,by omega,by go_num,HS,((hb.trans hbb).setCell (p:=⟨w1.heap.size,_,none⟩) (by show w.heap.size<=w1.heap.size;omega) _).setCell (p:=⟨w1.heap.size,_,none⟩) (by show w.heap.size<=w1.heap.size;omega) _,zcd n1 (zcd n1 p0'),zcd n2 (zcd n2 p4),zcd n2 (zcd n2 p5),zgU n2 (zgU n2 f4),zgU n2 (zgU n2 f5)⟩
    case measure=>simp[intOf];omega
  ·have hkn:k=cs.length:=by omega
   subst hkn
   have hT:((List.range cs.length).map fun j=>if zaN W j<cs.length then (fun m=>other (cs.getD m (0,0))) (zaN W j) else (0,0))=zkj W cs:=by
    unfold zkj
    apply List.map_congr_left
    intro j hj
    rw[if_pos (zeK W j cs.length hW (by rw[HN.out];exact Nat.mul_mod_right W H) (List.mem_range.1 hj)).2.1]
   rw[hT] at hO
   have s2:=hO.lt.2
   have n2:w1.heap.size≠w.heap.size+1:=by omega
   clear hT
   go_wp2
   refine bodyPost_ret (v:=.agg #[.int .i64 (W:Int),.slice (some ⟨w1.heap.size,0,none⟩) cs.length cs.length]) (by simp[results,Tryz.results9,go_sem,p4,p5]) rfl ⟨_,rfl,?_,?_⟩
   ·exact(hO.other (p:=⟨w.heap.size+1,0,none⟩) n2 _).other (p:=⟨w.heap.size+1,1,none⟩) n2 _
   ·exact(hb.setCell (p:=⟨w.heap.size+1,0,none⟩) (by simp) _).setCell (p:=⟨w.heap.size+1,1,none⟩) (by simp) _
