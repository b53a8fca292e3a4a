/- Part. -/
import Derived.Laws.CopyOwn
import Derived.Deep.RegionLaw
import Derived.Test.YthfhlgdeghnggaaGreatTAm
set_option maxHeartbeats 800000
set_option linter.unusedVariables false
namespace Go.Proofs.YthfhlgdeghnggaaGreat
variable{a:Act}{K:Act->World->Prop}{cs:List (Int × Int)}{xs:List Value}{B n:Nat}{P:Program}{w:World}
namespace Sp
variable{aLt:Nat->Func->Func}
open Go.RowKit
theorem znd{ops:Array Oper}{rest:List Oper}{o:Oper}{Q:Exit->Act->World->Prop}(hgd:o.guard=none)(d s:Operand)(dT sT:TypeId)(ho:o.op=.call { callee:=.builtin .copy,args:=#[d,s],argTypes:=#[dT,sT] })(e:TypeId)(hu:P.underlying dT=some (.slice e))(hsz:(P.info? e).map (·.size)=some 2)(B g n cap:Nat)(xs:List Value)(ad:Addr)(sCap:Nat)(hd:a.eval d=.slice (some ⟨g,0,none⟩) n cap)(hs:a.eval s=.slice (some ad) n sCap)(hown:w.ownsRow B e 2 (.slice (some ⟨g,0,none⟩) n cap) n xs)(cs:List Value)(hn:cs.length=n * 2)(hsrc:∀ j v,cs[j]?=some v->w.cell? (ad.add j)=some v)(h1:∀ v∈cs,v.oneCell'=true)(h:∀ w',w'.ownsRow B e 2 (.slice (some ⟨g,0,none⟩) n cap) n cs->w.grownBy w' (some g)->wpList P ops Q rest (a.put o.dst (goInt n)) w'):wpList P ops Q (o::rest) a w:=by
 obtain⟨hx,hr⟩:=hown
 rcases hr with ⟨h0,_⟩|⟨g',cap',cur,hv,hB,hg,hc1,hc2,hc3,htake⟩
 ·simp at h0
 ·simp only[Value.slice.injEq,Option.some.injEq,Addr.mk.injEq,and_true,true_and] at hv
  obtain⟨rfl,rfl⟩:=hv
  refine wpList_plain hgd fun K hK=>?_
  have hl:=run_loadCells_list (P:=P) w ad cs hsrc
  have hfit:n * 2<=cur.size:=by rw[hc3];exact Nat.mul_le_mul_right 2 hc1
  have hst:=run_storeCells_at P g 0 e cs 0 cur w hg (by simp[hn];exact hfit) h1
  have hrun:(Builtin.copy_ #[dT,sT] o.type #[.slice (some ⟨g,0,none⟩) n cap,.slice (some ad) n sCap]).run P w=.ok (goInt n) (w.setRow g (cur.toList.take 0++cs++cur.toList.drop (0+cs.length)).toArray):=by
   cases hq:P.info? e with
   | none=>simp[hq] at hsz
   | some i =>
    have hi:i.size=2:=by simpa [hq] using hsz
    rw[hn] at hl
    simp only[Nat.add_zero] at hst
    simp[Builtin.copy_,run_underlying hu,Builtin.lenOf,Builtin.firstCells,sizeOf,typeInfo,hq,hi,hl,hst]
  unfold Oper.wp
  simp only[execOp,ho]
  simp[resolve,invoke,builtin,hd,hs,hrun,Result.andThen]
  refine hK _ _ ?_
  have hset:=setRow_heap w g cur (cs++cur.toList.drop cs.length).toArray e (0,0) hg
  have hlen:(cs++cur.toList.drop cs.length).length=cap * 2:=by
   have hcl:cur.toList.length=cap * 2:=by simpa using hc3
   simp only[List.length_append,List.length_drop]
   rw[hcl,hn]
   have:=Nat.mul_le_mul_right 2 hc1
   omega
  have:=h (w.setRow g (cs++cur.toList.drop cs.length).toArray) ⟨hn,Or.inr ⟨g,cap,_,rfl,hB,hset,hc1,hc2,by simpa using hlen,by rw[<- hn];simp⟩⟩
   ⟨rfl,rfl,rfl,by simp[World.setRow],fun k _ hk=>setRow_other w g k _ (fun ek=>hk (by simp[ek]))⟩
  simpa using this
theorem Own.other{g cap:Nat}(h:Own w B (.slice (some ⟨g,0,none⟩) n cap) cs){p:Addr}(hne:g≠p.block)(u:Value):Own (w.setCell p u) B (.slice (some ⟨g,0,none⟩) n cap) cs:=by
 obtain⟨h1,h2⟩:=h
 refine⟨h1,?_⟩
 rcases h2 with ⟨h2,_⟩|⟨g',cap',cur,hv,hg,hh,r⟩
 ·simp at h2
 ·have hv':=hv
  simp only[Value.slice.injEq,Option.some.injEq,Addr.mk.injEq,and_true] at hv'
  exact Or.inr ⟨g',cap',cur,hv,hg,by rw[Below.heap_setCell _ _ _ _ (by rw[<- hv'.1];exact hne)];exact hh,r⟩
theorem zqo:((SqG.prog aLt).info? 48).map (·.size)=some 2:=by kernel_rfl
theorem zkK(cs:List (Int × Int)):∀ v∈flat cs,v.oneCell'=true:=by
 intro v hv
 simp only[flat,List.mem_flatMap,List.mem_cons,List.not_mem_nil,or_false] at hv
 obtain⟨c,_,rfl|rfl⟩:=hv <;> rfl
theorem zif{b off:Nat}(h:∀ i,i<cs.length->w.cell? ⟨b,off+i * 2,none⟩=some (.int .i64 (cs.getD i (0,0)).1)/\w.cell? ⟨b,off+i * 2+1,none⟩=some (.int .i64 (cs.getD i (0,0)).2)) :
  ∀ j v,(flat cs)[j]?=some v->w.cell? ((⟨b,off,none⟩:Addr).add j)=some v:=by
 intro j v hv
 have hadd:(⟨b,off,none⟩:Addr).add j=⟨b,off+j,none⟩:=by unfold Addr.add;split <;> simp_all
 rw[hadd]
 have hj:j<cs.length * 2:=by
  rw[<- ze7]
  exact(List.getElem?_eq_some_iff.1 hv).1
 have hi:j / 2<cs.length:=by omega
 have hf:=zht cs (j / 2) hi
 have hc:=h (j / 2) hi
 rcases (show j=j / 2 * 2\/j=j / 2 * 2+1 by omega) with e|e
 ·rw[<- e] at hf hc
  rw[hf.1] at hv
  rw[hc.1];exact hv
 ·rw[<- e] at hf
  rw[hf.2] at hv
  rw[Nat.add_assoc,<- e] at hc
  rw[hc.2];exact hv
theorem zeL(wd:Int)(a:Option Addr)(cap:Nat)(cs:List (Int × Int))(w:World)(hC:zak w a cs)(hm:cs.length<=1048576)(hlen:0<cs.length) :
  Calls (SqG.prog aLt) 72 #[.agg #[.int .i64 wd,.slice a cs.length cap]] w fun e w'=>∃ g,e=.returned (.agg #[.int .i64 wd,.slice (some ⟨g,0,none⟩) cs.length cs.length])/\Own w' w.heap.size (.slice (some ⟨g,0,none⟩) cs.length cs.length) cs/\Below w.heap.size w w':=by
 obtain⟨i0,hi,iz0,iz1,iz2⟩:=info_parts (zhD (aLt:=aLt))
 go_enter SqG.func72,Tryz.ntmps72
 go_wp2_with (at_make;refine wpList_make_full _ rfl _ _ 31 rfl w.heap.size 48 i0 (.agg #[.int .i64 0,.int .i64 0]) 2 SqG.underlying31 hi iz0 iz1 .i64 .i64 _ _ cs.length rfl rfl rfl rfl ?_ ?_ ?_ ?_)
 ·rw[iz2];omega
 ·unfold maxLen;omega
 ·simp;omega
 intro w3 hO3 hg3
 have hb3:=(Below.refl _ _).grown hg3 (Nat.le_refl _) (fun k hk=>by cases hk)
 have hz3:=hb3.size
 have hB3:Below w.heap.size w w3:=zaj bel (by simp;omega) hb3
 have p0:w3.cell? ⟨w.heap.size,0,none⟩=some (.int .i64 wd):=zab hb3 (by simp[go_sem])
 have p1:w3.cell? ⟨w.heap.size,1,none⟩=some (.slice a cs.length cap):=zab hb3 (by simp[go_sem])
 have p4:w3.cell? ⟨w.heap.size+1,0,none⟩=some (.int .i64 0):=zab hb3 (by simp[go_sem])
 have p5:w3.cell? ⟨w.heap.size+1,1,none⟩=some (.slice none 0 0):=zab hb3 (by simp[go_sem])
 have f4:w3.frozen? ⟨w.heap.size+1,0,none⟩=false:=zam hb3 (v:=.int .i64 0) (by simp[go_sem]) (by simp[go_sem])
 have f5:w3.frozen? ⟨w.heap.size+1,1,none⟩=false:=zam hb3 (v:=.slice none 0 0) (by simp[go_sem]) (by simp[go_sem])
 clear hg3 hb3
 simp at hz3 hO3
 have hC3:=hC.below hB3
 rcases hC3 with h0|⟨b,off,rfl,hbl,hcell⟩
 ·rw[h0] at hlen;simp at hlen
 go_wp2_with (refine znd rfl (.tmp 8) (.tmp 10) 31 31 rfl 48 SqG.underlying31 zqo w.heap.size (w.heap.size+1+1) cs.length cs.length _ ⟨b,off,none⟩ cap rfl rfl hO3 (flat cs) (ze7 cs) ?_ ?_ ?_)
 ·exact zif hcell
 ·exact zkK cs
 intro w4 hO4 hg4
 have hOw:Own w4 w.heap.size (.slice (some ⟨w.heap.size+1+1,0,none⟩) cs.length cs.length) cs:=hO4
 have hB4:Below w.heap.size w w4:=hB3.grown hg4 (by omega) (fun k hk=>by simp at hk;omega)
 have hz4:=hg4.size
 have hne:∀ x,x<w.heap.size+1+1->some x≠some (w.heap.size+1+1):=by intro x hx;simp;omega
 replace f4:=(World.frozen?_of_block (a:=⟨w.heap.size+1,0,none⟩) (hg4.block (w.heap.size+1) (by omega) (hne _ (by omega)))).trans f4
 replace f5:=(World.frozen?_of_block (a:=⟨w.heap.size+1,1,none⟩) (hg4.block (w.heap.size+1) (by omega) (hne _ (by omega)))).trans f5
 replace p0:=hg4.cell p0 (hne _ (by simp;omega))
 replace p1:=hg4.cell p1 (hne _ (by simp;omega))
 replace p4:=hg4.cell p4 (hne _ (by simp))
 replace p5:=hg4.cell p5 (hne _ (by simp))
 clear hO4 hg4 hcell hne hC hO3
 go_wp2
 refine bodyPost_ret (v:=.agg #[.int .i64 wd,.slice (some ⟨w.heap.size+1+1,0,none⟩) cs.length cs.length]) (by simp[results,Tryz.results72,go_sem,p4,p5]) rfl ⟨_,rfl,?_,?_⟩
 ·exact(hOw.other (by simp) _).other (by simp) _
 ·exact(hB4.setCell (by simp) _).setCell (by simp) _
theorem zge{ops:Array Oper}{o:Oper}{Q:Exit->Act->World->Prop}{E:Prop}(hgd:o.guard=none)(s x:Operand)(t:TypeId)(ho:o.op=.call { callee:=.builtin .append,args:=#[s,x],argTypes:=#[t,t] })(base:Nat)(e:TypeId)(i:TypeInfo)(z:Value)(size bytes:Nat)(ht:P.underlying t=some (.slice e))(hi:P.info? e=some i)(hz:i.zero=some z)(hsize:i.size=size)(hby:i.bytes=bytes)(hzs:z.cells.size=size)(hsz:0<size)(v:Value)(n:Nat)(xs:List Value)(hs:a.eval s=v)(hown:w.ownsRow base e size v n xs)(ad:Addr)(m c:Nat)(news:List Value)(hx:a.eval x=.slice (some ad) m c)(hl:news.length=m * size)(hnews:∀ j u,news[j]?=some u->w.cell? (ad.add j)=some u)(h1:∀ u∈news,u.oneCell'=true)(h63:n+m<=maxLen)(hbytes:(n+m) * bytes<=140737488355328)(hbase:base<=w.heap.size)(h:∀ v' w',w'.ownsRow base e size v' (n+m) (xs++news)->w.grownBy w' v.ownBlock->(v'=.slice none 0 0 ↔ v=.slice none 0 0/\m=0)->K (a.put o.dst v') w') :
  if Region.wanted o (yielded ops a.tmps)=true then Oper.wp P o a w K Q else E:=by
 have hw:Region.wanted o (yielded ops a.tmps)=true:=by simp[Region.wanted,hgd]
 rw[if_pos hw]
 exact wp_append_own w s x t ho base e i z size bytes ht hi hz hsize hby hzs hsz v n xs hs hown ad m c news hx hl hnews h1 h63 hbytes hbase h
theorem zp8{e:TypeId}{size:Nat}{v:Value}(h:w.ownsRow B e size v n xs)(hn:0<n):∃ g cap,v=.slice (some ⟨g,0,none⟩) n cap/\B<=g/\g<w.heap.size:=by
 rcases h.2 with ⟨_,h0⟩|⟨g,cap,cur,hv,hB,hg,_⟩
 ·omega
 ·exact⟨g,cap,hv,hB,(gei hg).1⟩
theorem zlZ(w:World)(B:Nat)(e:TypeId)(size:Nat)(hB:B<=w.heap.size):(w.alloc (.cells #[] e)).ownsRow B e size (.slice (some ⟨w.heap.size,0,none⟩) 0 0) 0 []:=by
 refine⟨by simp,Or.inr ⟨w.heap.size,0,#[],rfl,hB,heap_alloc_new w _,Nat.le_refl _,by unfold maxLen;omega,by simp,by simp⟩⟩
theorem zlL(wd:Int)(b off cap:Nat)(cs:List (Int × Int))(w:World)(hbl:b<w.heap.size)(hcell:∀ i,i<cs.length->w.cell? ⟨b,off+i * 2,none⟩=some (.int .i64 (cs.getD i (0,0)).1)/\w.cell? ⟨b,off+i * 2+1,none⟩=some (.int .i64 (cs.getD i (0,0)).2))(hm:cs.length<=1048576)(hp:0<cs.length) :
  Calls (SqG.prog aLt) 63 #[.agg #[.int .i64 wd,.slice (some ⟨b,off,none⟩) cs.length cap]] w fun e w'=>∃ g cap',e=.returned (.agg #[.int .i64 wd,.slice (some ⟨g,0,none⟩) cs.length cap'])/\Own w' w.heap.size (.slice (some ⟨g,0,none⟩) cs.length cap') cs/\Below w.heap.size w w':=by
 obtain⟨i0,hi,iz0,iz1,iz2⟩:=info_parts (zhD (aLt:=aLt))
 go_enter SqG.func63,Tryz.ntmps63
 go_wp2_with fail
 have hE:((((w.alloc (.cells #[.int .i64 wd,.slice (some ⟨b,off,none⟩) cs.length cap] 33)).alloc (.cells #[.int .i64 0,.slice none 0 0] 33)).alloc (.cells #[] 48)).drew).ownsRow w.heap.size 48 2 (.slice (some ⟨w.heap.size+1+1,0,none⟩) 0 0) 0 [] :=
  World.ownsRow.drew (by have:=zlZ ((w.alloc (.cells #[.int .i64 wd,.slice (some ⟨b,off,none⟩) cs.length cap] 33)).alloc (.cells #[.int .i64 0,.slice none 0 0] 33)) w.heap.size 48 2 (by simp;omega);simpa using this)
 have hB3:Below w.heap.size w ((((w.alloc (.cells #[.int .i64 wd,.slice (some ⟨b,off,none⟩) cs.length cap] 33)).alloc (.cells #[.int .i64 0,.slice none 0 0] 33)).alloc (.cells #[] 48)).drew):=bel
 have hSrc:∀ j u,(flat cs)[j]?=some u->((((w.alloc (.cells #[.int .i64 wd,.slice (some ⟨b,off,none⟩) cs.length cap] 33)).alloc (.cells #[.int .i64 0,.slice none 0 0] 33)).alloc (.cells #[] 48)).drew).cell? ((⟨b,off,none⟩:Addr).add j)=some u:=by
  intro j u hj
  rw[hB3.cell (by unfold Addr.add;split <;> exact hbl)]
  exact zif hcell j u hj
 have HE:=hE
 have HSrc:=hSrc
 clear hE hSrc hcell
 go_region_law (refine zge rfl (.tmp 5) (.tmp 7) 31 rfl w.heap.size 48 i0 _ 2 16 SqG.underlying31 hi iz0 iz1 iz2 rfl (by decide) (.slice (some ⟨w.heap.size+1+1,0,none⟩) 0 0) 0 [] rfl HE ⟨b,off,none⟩ cs.length cap (flat cs) rfl (ze7 cs) HSrc (zkK cs) (by unfold maxLen;omega) (by omega) (by simp;omega) ?_;intro v' w1 hO1 hg1 hn1;simp only[Nat.zero_add,List.nil_append] at hO1;obtain⟨g,cap',hv,hgB,hgl⟩:=zp8 hO1 hp;subst hv;have q2:w1.cell? ⟨w.heap.size,0,none⟩=some (.int .i64 wd):=hg1.cell (by simp[go_sem]) (by simp[Value.ownBlock];omega);have q0:w1.cell? ⟨w.heap.size+1,0,none⟩=some (.int .i64 0):=hg1.cell (by simp[go_sem]) (by simp[Value.ownBlock]);have q1:w1.cell? ⟨w.heap.size+1,1,none⟩=some (.slice none 0 0):=hg1.cell (by simp[go_sem]) (by simp[Value.ownBlock]);have f0:w1.frozen? ⟨w.heap.size+1,0,none⟩=false:=(World.frozen?_of_block (a:=⟨w.heap.size+1,0,none⟩) (hg1.block (w.heap.size+1) (by simp) (by simp[Value.ownBlock]))).trans (by simp[go_sem]);have f1:w1.frozen? ⟨w.heap.size+1,1,none⟩=false:=(World.frozen?_of_block (a:=⟨w.heap.size+1,1,none⟩) (hg1.block (w.heap.size+1) (by simp) (by simp[Value.ownBlock]))).trans (by simp[go_sem]))
 all_goals
  go_wp2
  have hB1:Below w.heap.size w w1:=hB3.grown hg1 (by simp;omega) (fun k hk=>by simp[Value.ownBlock] at hk;omega)
  have hgne:g≠w.heap.size+1:=by
   intro hx
   subst hx
   have hO:Own w1 w.heap.size (.slice (some ⟨w.heap.size+1,0,none⟩) cs.length cap') cs:=hO1
   have hc:=(hO.cell rfl 0 hp).1
   have hc2:=(hO.cell rfl 0 hp).2.1
   simp only[Nat.zero_mul,Nat.zero_add] at hc2
   rw[q1] at hc2
   simp at hc2
  refine bodyPost_ret (v:=.agg #[.int .i64 wd,.slice (some ⟨g,0,none⟩) cs.length cap']) (by simp[results,Tryz.results63,go_sem,q0,q1]) rfl ⟨g,cap',rfl,?_,?_⟩
  ·exact(Own.other (Own.other hO1 hgne _) hgne _)
  ·exact(hB1.setCell (by simp) _).setCell (by simp) _
