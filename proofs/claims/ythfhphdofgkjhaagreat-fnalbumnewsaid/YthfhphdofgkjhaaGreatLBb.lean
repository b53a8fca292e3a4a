/- Part. -/
import Derived.Deep.RegionLaw
import Derived.Test.YthfhphdofgkjhaaGreatLAz
import Derived.Test.YthfhphdofgkjhaaGreatLBa
set_option maxHeartbeats 2000000
set_option linter.unusedVariables false
namespace Go.Proofs.YthfhphdofgkjhaaGreat
variable{a:Act}{K:Act->World->Prop}{cs:List (Int × Int)}{xs:List Value}{B n:Nat}{P:Program}{w:World}
namespace Sp
variable{aLt:Nat->Func->Func}
open Go.RowKit
theorem zmn{ops:Array Oper}{rest:List Oper}{o:Oper}{Q:Exit->Act->World->Prop}(hgd:o.guard=none)(d s:Operand)(dT sT:TypeId)(ho:o.op=.call { callee:=.builtin .copy,args:=#[d,s],argTypes:=#[dT,sT] })(e:TypeId)(hu:P.underlying dT=some (.slice e))(hsz:(P.info? e).map (·.size)=some 2)(B g n cap:Nat)(xs:List Value)(ad:Addr)(sCap:Nat)(hd:a.eval d=.slice (some ⟨g,0,none⟩) n cap)(hs:a.eval s=.slice (some ad) n sCap)(hown:w.ownsRow B e 2 (.slice (some ⟨g,0,none⟩) n cap) n xs)(cs:List Value)(hn:cs.length=n * 2)(hsrc:∀ j v,cs[j]?=some v->w.cell? (ad.add j)=some v)(h1:∀ v∈cs,v.oneCell'=true)(h:∀ w',w'.ownsRow B e 2 (.slice (some ⟨g,0,none⟩) n cap) n cs->w.grownBy w' (some g)->wpList P ops Q rest (a.put o.dst (goInt n)) w'):wpList P ops Q (o::rest) a w:=by
 obtain⟨hx,hr⟩:=hown
 rcases hr with ⟨h0,_⟩|⟨g',cap',cur,hv,hB,hg,hc1,hc2,hc3,htake⟩
 ·simp at h0
 ·simp only[Value.slice.injEq,Option.some.injEq,Addr.mk.injEq,and_true,true_and] at hv
  obtain⟨rfl,rfl⟩:=hv
  refine wpList_plain hgd fun K hK=>?_
  have hl:=run_loadCells_list (P:=P) w ad cs hsrc
  have hfit:n * 2<=cur.size:=by rw[hc3];exact Nat.mul_le_mul_right 2 hc1
  have hst:=run_storeCells_at P g 0 e cs 0 cur w hg (by simp[hn];exact hfit) h1
  have hrun:(Builtin.copy_ #[dT,sT] o.type #[.slice (some ⟨g,0,none⟩) n cap,.slice (some ad) n sCap]).run P w=.ok (goInt n) (w.setRow g (cur.toList.take 0++cs++cur.toList.drop (0+cs.length)).toArray):=by
   cases hq:P.info? e with
   | none=>simp[hq] at hsz
   | some i =>
    have hi:i.size=2:=by simpa [hq] using hsz
    rw[hn] at hl
    simp only[Nat.add_zero] at hst
    simp[Builtin.copy_,run_underlying hu,Builtin.lenOf,Builtin.firstCells,sizeOf,typeInfo,hq,hi,hl,hst]
  unfold Oper.wp
  simp only[execOp,ho]
  simp[resolve,invoke,builtin,hd,hs,hrun,Result.andThen]
  refine hK _ _ ?_
  have hset:=setRow_heap w g cur (cs++cur.toList.drop cs.length).toArray e (0,0) hg
  have hlen:(cs++cur.toList.drop cs.length).length=cap * 2:=by
   have hcl:cur.toList.length=cap * 2:=by simpa using hc3
   simp only[List.length_append,List.length_drop]
   rw[hcl,hn]
   have:=Nat.mul_le_mul_right 2 hc1
   omega
  have:=h (w.setRow g (cs++cur.toList.drop cs.length).toArray) ⟨hn,Or.inr ⟨g,cap,_,rfl,hB,hset,hc1,hc2,by simpa using hlen,by rw[<- hn];simp⟩⟩
   ⟨rfl,rfl,rfl,by simp[World.setRow],fun k _ hk=>setRow_other w g k _ (fun ek=>hk (by simp[ek]))⟩
  simpa using this
theorem Own.other{g cap:Nat}(h:Own w B (.slice (some ⟨g,0,none⟩) n cap) cs){p:Addr}(hne:g≠p.block)(u:Value):Own (w.setCell p u) B (.slice (some ⟨g,0,none⟩) n cap) cs:=by
 obtain⟨h1,h2⟩:=h
 refine⟨h1,?_⟩
 rcases h2 with ⟨h2,_⟩|⟨g',cap',cur,hv,hg,hh,r⟩
 ·simp at h2
 ·have hv':=hv
  simp only[Value.slice.injEq,Option.some.injEq,Addr.mk.injEq,and_true] at hv'
  exact Or.inr ⟨g',cap',cur,hv,hg,by rw[Below.heap_setCell _ _ _ _ (by rw[<- hv'.1];exact hne)];exact hh,r⟩
theorem zpm:((SqG.prog aLt).info? 64).map (·.size)=some 2:=by kernel_rfl
theorem zka(cs:List (Int × Int)):∀ v∈flat cs,v.oneCell'=true:=by
 intro v hv
 simp only[flat,List.mem_flatMap,List.mem_cons,List.not_mem_nil,or_false] at hv
 obtain⟨c,_,rfl|rfl⟩:=hv <;> rfl
theorem zhR{b off:Nat}(h:∀ i,i<cs.length->w.cell? ⟨b,off+i * 2,none⟩=some (.int .i64 (cs.getD i (0,0)).1)/\w.cell? ⟨b,off+i * 2+1,none⟩=some (.int .i64 (cs.getD i (0,0)).2)) :
  ∀ j v,(flat cs)[j]?=some v->w.cell? ((⟨b,off,none⟩:Addr).add j)=some v:=by
 intro j v hv
 have hadd:(⟨b,off,none⟩:Addr).add j=⟨b,off+j,none⟩:=by unfold Addr.add;split <;> simp_all
 rw[hadd]
 have hj:j<cs.length * 2:=by
  rw[<- zeV]
  exact(List.getElem?_eq_some_iff.1 hv).1
 have hi:j / 2<cs.length:=by omega
 have hf:=zg7 cs (j / 2) hi
 have hc:=h (j / 2) hi
 rcases (show j=j / 2 * 2\/j=j / 2 * 2+1 by omega) with e|e
 ·rw[<- e] at hf hc
  rw[hf.1] at hv
  rw[hc.1];exact hv
 ·rw[<- e] at hf
  rw[hf.2] at hv
  rw[Nat.add_assoc,<- e] at hc
  rw[hc.2];exact hv
theorem zew(wd:Int)(a:Option Addr)(cap:Nat)(cs:List (Int × Int))(w:World)(hC:zai w a cs)(hm:cs.length<=1048576)(hlen:0<cs.length) :
  Calls (SqG.prog aLt) 18 #[.agg #[.int .i64 wd,.slice a cs.length cap]] w fun e w'=>∃ g,e=.returned (.agg #[.int .i64 wd,.slice (some ⟨g,0,none⟩) cs.length cs.length])/\Own w' w.heap.size (.slice (some ⟨g,0,none⟩) cs.length cs.length) cs/\Below w.heap.size w w':=by
 obtain⟨i0,hi,iz0,iz1,iz2⟩:=info_parts (zeW (aLt:=aLt))
 go_enter SqG.func18,Tryz.ntmps18
 go_wp2_with (at_make;refine wpList_make_full _ rfl _ _ 23 rfl w.heap.size 64 i0 (.agg #[.int .i64 0,.int .i64 0]) 2 SqG.underlying23 hi iz0 iz1 .i64 .i64 _ _ cs.length rfl rfl rfl rfl ?_ ?_ ?_ ?_)
 ·rw[iz2];omega
 ·unfold maxLen;omega
 ·simp;omega
 intro w3 hO3 hg3
 have hb3:=(Below.refl _ _).grown hg3 (Nat.le_refl _) (fun k hk=>by cases hk)
 have hz3:=hb3.size
 have hB3:Below w.heap.size w w3:=zak bel (by simp;omega) hb3
 have p0:w3.cell? ⟨w.heap.size,0,none⟩=some (.int .i64 wd):=zab hb3 (by simp[go_sem])
 have p1:w3.cell? ⟨w.heap.size,1,none⟩=some (.slice a cs.length cap):=zab hb3 (by simp[go_sem])
 have p4:w3.cell? ⟨w.heap.size+1,0,none⟩=some (.int .i64 0):=zab hb3 (by simp[go_sem])
 have p5:w3.cell? ⟨w.heap.size+1,1,none⟩=some (.slice none 0 0):=zab hb3 (by simp[go_sem])
 have f4:w3.frozen? ⟨w.heap.size+1,0,none⟩=false:=zam hb3 (v:=.int .i64 0) (by simp[go_sem]) (by simp[go_sem])
 have f5:w3.frozen? ⟨w.heap.size+1,1,none⟩=false:=zam hb3 (v:=.slice none 0 0) (by simp[go_sem]) (by simp[go_sem])
 clear hg3 hb3
 simp at hz3 hO3
 have hC3:=hC.below hB3
 rcases hC3 with h0|⟨b,off,rfl,hbl,hcell⟩
 ·rw[h0] at hlen;simp at hlen
 go_wp2_with (refine zmn rfl (.tmp 8) (.tmp 10) 23 23 rfl 64 SqG.underlying23 zpm w.heap.size (w.heap.size+1+1) cs.length cs.length _ ⟨b,off,none⟩ cap rfl rfl hO3 (flat cs) (zeV cs) ?_ ?_ ?_)
 ·exact zhR hcell
 ·exact zka cs
 intro w4 hO4 hg4
 have hOw:Own w4 w.heap.size (.slice (some ⟨w.heap.size+1+1,0,none⟩) cs.length cs.length) cs:=hO4
 have hB4:Below w.heap.size w w4:=hB3.grown hg4 (by omega) (fun k hk=>by simp at hk;omega)
 have hz4:=hg4.size
 have hne:∀ x,x<w.heap.size+1+1->some x≠some (w.heap.size+1+1):=by intro x hx;simp;omega
 replace f4:=(World.frozen?_of_block (a:=⟨w.heap.size+1,0,none⟩) (hg4.block (w.heap.size+1) (by omega) (hne _ (by omega)))).trans f4
 replace f5:=(World.frozen?_of_block (a:=⟨w.heap.size+1,1,none⟩) (hg4.block (w.heap.size+1) (by omega) (hne _ (by omega)))).trans f5
 replace p0:=hg4.cell p0 (hne _ (by simp;omega))
 replace p1:=hg4.cell p1 (hne _ (by simp;omega))
 replace p4:=hg4.cell p4 (hne _ (by simp))
 replace p5:=hg4.cell p5 (hne _ (by simp))
 clear hO4 hg4 hcell hne hC hO3
 go_wp2
 refine bodyPost_ret (v:=.agg #[.int .i64 wd,.slice (some ⟨w.heap.size+1+1,0,none⟩) cs.length cs.length]) (by simp[results,Tryz.results18,go_sem,p4,p5]) rfl ⟨_,rfl,?_,?_⟩
 ·exact(hOw.other (by simp) _).other (by simp) _
 ·exact(hB4.setCell (by simp) _).setCell (by simp) _
theorem zfW{ops:Array Oper}{o:Oper}{Q:Exit->Act->World->Prop}{E:Prop}(hgd:o.guard=none)(s x:Operand)(t:TypeId)(ho:o.op=.call { callee:=.builtin .append,args:=#[s,x],argTypes:=#[t,t] })(base:Nat)(e:TypeId)(i:TypeInfo)(z:Value)(size bytes:Nat)(ht:P.underlying t=some (.slice e))(hi:P.info? e=some i)(hz:i.zero=some z)(hsize:i.size=size)(hby:i.bytes=bytes)(hzs:z.cells.size=size)(hsz:0<size)(v:Value)(n:Nat)(xs:List Value)(hs:a.eval s=v)(hown:w.ownsRow base e size v n xs)(ad:Addr)(m c:Nat)(news:List Value)(hx:a.eval x=.slice (some ad) m c)(hl:news.length=m * size)(hnews:∀ j u,news[j]?=some u->w.cell? (ad.add j)=some u)(h1:∀ u∈news,u.oneCell'=true)(h63:n+m<=maxLen)(hbytes:(n+m) * bytes<=140737488355328)(hbase:base<=w.heap.size)(h:∀ v' w',w'.ownsRow base e size v' (n+m) (xs++news)->w.grownBy w' v.ownBlock->(v'=.slice none 0 0 ↔ v=.slice none 0 0/\m=0)->K (a.put o.dst v') w') :
  if Region.wanted o (yielded ops a.tmps)=true then Oper.wp P o a w K Q else E:=by
 have hw:Region.wanted o (yielded ops a.tmps)=true:=by simp[Region.wanted,hgd]
 rw[if_pos hw]
 exact wp_append_own w s x t ho base e i z size bytes ht hi hz hsize hby hzs hsz v n xs hs hown ad m c news hx hl hnews h1 h63 hbytes hbase h
theorem zo8{e:TypeId}{size:Nat}{v:Value}(h:w.ownsRow B e size v n xs)(hn:0<n):∃ g cap,v=.slice (some ⟨g,0,none⟩) n cap/\B<=g/\g<w.heap.size:=by
 rcases h.2 with ⟨_,h0⟩|⟨g,cap,cur,hv,hB,hg,_⟩
 ·omega
 ·exact⟨g,cap,hv,hB,(gei hg).1⟩
theorem zlo(w:World)(B:Nat)(e:TypeId)(size:Nat)(hB:B<=w.heap.size):(w.alloc (.cells #[] e)).ownsRow B e size (.slice (some ⟨w.heap.size,0,none⟩) 0 0) 0 []:=by
 refine⟨by simp,Or.inr ⟨w.heap.size,0,#[],rfl,hB,heap_alloc_new w _,Nat.le_refl _,by unfold maxLen;omega,by simp,by simp⟩⟩
theorem zk8(wd:Int)(b off cap:Nat)(cs:List (Int × Int))(w:World)(hbl:b<w.heap.size)(hcell:∀ i,i<cs.length->w.cell? ⟨b,off+i * 2,none⟩=some (.int .i64 (cs.getD i (0,0)).1)/\w.cell? ⟨b,off+i * 2+1,none⟩=some (.int .i64 (cs.getD i (0,0)).2))(hm:cs.length<=1048576)(hp:0<cs.length) :
  Calls (SqG.prog aLt) 36 #[.agg #[.int .i64 wd,.slice (some ⟨b,off,none⟩) cs.length cap]] w fun e w'=>∃ g cap',e=.returned (.agg #[.int .i64 wd,.slice (some ⟨g,0,none⟩) cs.length cap'])/\Own w' w.heap.size (.slice (some ⟨g,0,none⟩) cs.length cap') cs/\Below w.heap.size w w':=by
 obtain⟨i0,hi,iz0,iz1,iz2⟩:=info_parts (zeW (aLt:=aLt))
 go_enter SqG.func36,Tryz.ntmps36
 go_wp2_with fail
 have hE:((((w.alloc (.cells #[.int .i64 wd,.slice (some ⟨b,off,none⟩) cs.length cap] 25)).alloc (.cells #[.int .i64 0,.slice none 0 0] 25)).alloc (.cells #[] 64)).drew).ownsRow w.heap.size 64 2 (.slice (some ⟨w.heap.size+1+1,0,none⟩) 0 0) 0 [] :=
  World.ownsRow.drew (by have:=zlo ((w.alloc (.cells #[.int .i64 wd,.slice (some ⟨b,off,none⟩) cs.length cap] 25)).alloc (.cells #[.int .i64 0,.slice none 0 0] 25)) w.heap.size 64 2 (by simp;omega);simpa using this)
 have hB3:Below w.heap.size w ((((w.alloc (.cells #[.int .i64 wd,.slice (some ⟨b,off,none⟩) cs.length cap] 25)).alloc (.cells #[.int .i64 0,.slice none 0 0] 25)).alloc (.cells #[] 64)).drew):=bel
 have hSrc:∀ j u,(flat cs)[j]?=some u->((((w.alloc (.cells #[.int .i64 wd,.slice (some ⟨b,off,none⟩) cs.length cap] 25)).alloc (.cells #[.int .i64 0,.slice none 0 0] 25)).alloc (.cells #[] 64)).drew).cell? ((⟨b,off,none⟩:Addr).add j)=some u:=by
  intro j u hj
  rw[hB3.cell (by unfold Addr.add;split <;> exact hbl)]
  exact zhR hcell j u hj
 have HE:=hE
 have HSrc:=hSrc
 clear hE hSrc hcell
 go_region_law (refine zfW rfl (.tmp 5) (.tmp 7) 23 rfl w.heap.size 64 i0 _ 2 16 SqG.underlying23 hi iz0 iz1 iz2 rfl (by decide) (.slice (some ⟨w.heap.size+1+1,0,none⟩) 0 0) 0 [] rfl HE ⟨b,off,none⟩ cs.length cap (flat cs) rfl (zeV cs) HSrc (zka cs) (by unfold maxLen;omega) (by omega) (by simp;omega) ?_;intro v' w1 hO1 hg1 hn1;simp only[Nat.zero_add,List.nil_append] at hO1;obtain⟨g,cap',hv,hgB,hgl⟩:=zo8 hO1 hp;subst hv;have q2:w1.cell? ⟨w.heap.size,0,none⟩=some (.int .i64 wd):=hg1.cell (by simp[go_sem]) (by simp[Value.ownBlock];omega);have q0:w1.cell? ⟨w.heap.size+1,0,none⟩=some (.int .i64 0):=hg1.cell (by simp[go_sem]) (by simp[Value.ownBlock]);have q1:w1.cell? ⟨w.heap.size+1,1,none⟩=some (.slice none 0 0):=hg1.cell (by simp[go_sem]) (by simp[Value.ownBlock]);have f0:w1.frozen? ⟨w.heap.size+1,0,none⟩=false:=(World.frozen?_of_block (a:=⟨w.heap.size+1,0,none⟩) (hg1.block (w.heap.size+1) (by simp) (by simp[Value.ownBlock]))).trans (by simp[go_sem]);have f1:w1.frozen? ⟨w.heap.size+1,1,none⟩=false:=(World.frozen?_of_block (a:=⟨w.heap.size+1,1,none⟩) (hg1.block (w.heap.size+1) (by simp) (by simp[Value.ownBlock]))).trans (by simp[go_sem]))
 all_goals
  go_wp2
  have hB1:Below w.heap.size w w1:=hB3.grown hg1 (by simp;omega) (fun k hk=>by simp[Value.ownBlock] at hk;omega)
  have hgne:g≠w.heap.size+1:=by
   intro hx
   subst hx
   have hO:Own w1 w.heap.size (.slice (some ⟨w.heap.size+1,0,none⟩) cs.length cap') cs:=hO1
   have hc:=(hO.cell rfl 0 hp).1
   have hc2:=(hO.cell rfl 0 hp).2.1
   simp only[Nat.zero_mul,Nat.zero_add] at hc2
   rw[q1] at hc2
   simp at hc2
  refine bodyPost_ret (v:=.agg #[.int .i64 wd,.slice (some ⟨g,0,none⟩) cs.length cap']) (by simp[results,Tryz.results36,go_sem,q0,q1]) rfl ⟨g,cap',rfl,?_,?_⟩
  ·exact(Own.other (Own.other hO1 hgne _) hgne _)
  ·exact(hB1.setCell (by simp) _).setCell (by simp) _
end Sp
namespace Sp
open Go.RowKit
attribute [local go_sem ↓] Go.wp_at_zero Go.wp_at_succ
theorem zkC(wd:Int)(a:Option Addr)(cap:Nat)(cs:List (Int × Int))(w:World)(h:zai w a cs)(hm:cs.length<4611686018427387904)(hk:okG wd cs=false) :
  Calls SqP.prog 8 #[.agg #[.int .i64 wd,.slice a cs.length cap]] w fun e w'=>e=.returned (.tuple #[.agg #[.int .i64 0,.slice none 0 0,.slice none 0 0,.slice none 0 0],.bool false])/\Below w.heap.size w w':=by
 go_enter SqP.func8,SqP.ntmps8
 unfold zqo
 refine wp_seq (zqp wd a cap cs w h hm fun w1 u1 u2 u3 u4 u5 u6 u7 u8 u9 u10 u11 u12 u13 u14 u15 u16 u17 u18 u19 u20 u21 hb1=>wp_skip ?_)
 have hC:=h.below hb1
 have hz:=hb1.size
 show Code.wp _ _ _ _ _
 unfold zgG scG scN
 simp only[opr]
 go_wp2_with fail
 refine(zbD _ _ _ cs _ hC (by omega)).mono ?_
 rintro e w2 ⟨rfl,hb2⟩
 rw[hk]
 have hB2:=zak hb1 hz hb2
 go_wp2_with fail
 refine bodyPost_ret (v:=.tuple #[.agg #[.int .i64 0,.slice none 0 0,.slice none 0 0,.slice none 0 0],.bool false]) (by simp[results,SqP.results8,Tryz.results8,go_sem]) rfl ⟨rfl,hB2.alloc hB2.size _⟩
theorem zoM:(SqP.prog.info? 27).map (fun i=>(i.zero,i.size,i.bytes))=some (some (.slice none 0 0),1,24):=by kernel_rfl
theorem zgD(n:Nat)(hn:n<=1048576)(w:World):(Instr.makeSlice 28 (.int .i64 (n:Int)) (.int .i64 (n:Int))).run SqP.prog w=.ok (.slice (some ⟨w.heap.size,0,none⟩) n n) (w.alloc (.cells (madeCells #[.slice none 0 0] n) 27)):=by
 obtain⟨i0,hi,iz0,iz1,iz2⟩:=info_parts zoM
 have:=run_make (P:=SqP.prog) w 28 27 i0 (.slice none 0 0) SqP.underlying28 hi iz0 .i64 .i64 (n:Int) (n:Int) (by omega) (by omega) (by rw[iz2];omega) (by omega)
 rw[iz1] at this
 simpa [Value.cells] using this
theorem zry(wd:Int)(a:Option Addr)(cap:Nat)(cs:List (Int × Int))(w:World)(h:zai w a cs)(hm:cs.length<=1048576)(M k gc gl gf:Nat)(hkM:k<M)(hM:M<=20)(arrL arrF:Array Value)(hL:w.heap[gl]?=some (.cells arrL 3))(hF:w.heap[gf]?=some (.cells arrF 27))(hLs:arrL.size=M)(hFs:arrF.size=M)(hlf:gl≠gf)(hca:∀ b off,a=some ⟨b,off,none⟩->b≠gl/\b≠gf)(C:Nat)(hT:ziU w C)(hlen:(zaH wd cs k).length<=C)(u1 u2 u3 u4 u5 u11 u12 u13 u14 u15 u16 u17 u18 u19 u20 u21:Value){Q:Exit->Act->World->Prop}(hK:∀(v u11 u12 u13 u14 u15:Value) (w':World),zdy w' w.heap.size 3 v (zaH wd cs k)->(v=.slice none 0 0\/zbL v=C)->w'.heap[gl]?=some (.cells (arrL.setIfInBounds k (.int .i64 (zaW wd cs k))) 3)->w'.heap[gf]?=some (.cells (arrF.setIfInBounds k v) 27)->(∀ b,b<w.heap.size->b≠gl->b≠gf->w'.heap[b]?=w.heap[b]?)->w.heap.size<=w'.heap.size->w'.os=w.os/\w'.tape=w.tape/\w'.output=w.output->Q .normal ⟨#[.agg #[.int .i64 wd,.slice a cs.length cap],u1,u2,u3,u4,u5,.agg #[.int .i64 wd,.slice (some ⟨gc,0,none⟩) cs.length cs.length],.int .i64 (M:Int),.slice (some ⟨gl,0,none⟩) M M,.slice (some ⟨gf,0,none⟩) M M,.int .i64 ((k:Int)+1),u11,u12,u13,u14,u15,u16,u17,u18,u19,u20,u21],[]⟩ w') :
  scL.wp SqP.prog Q ⟨#[.agg #[.int .i64 wd,.slice a cs.length cap],u1,u2,u3,u4,u5,.agg #[.int .i64 wd,.slice (some ⟨gc,0,none⟩) cs.length cs.length],.int .i64 (M:Int),.slice (some ⟨gl,0,none⟩) M M,.slice (some ⟨gf,0,none⟩) M M,.int .i64 ((k:Int)),u11,u12,u13,u14,u15,u16,u17,u18,u19,u20,u21],[]⟩ w:=by
 have bl:decide ((k:Int)<(M:Int))=true:=decide_eq_true (by omega)
 have wk:IntKind.i64.wrap ((k:Int)+1)=(k:Int)+1:=IntWalk.i64_in _ (by omega)
 have hgl:=(gei hL).1
 have hgf:=(gei hF).1
 have HL:Hid (w.heap[gl]?=some (.cells arrL 3)):=hL
 have HF:Hid (w.heap[gf]?=some (.cells arrF 27)):=hF
 clear hL hF
 unfold scL
 simp only[opr]
 go_wp2_with fail
 refine(zcy wd a cap cs w h hm k).mono ?_
 rintro e w1 ⟨rfl,hb1⟩
 obtain⟨lt,elt⟩:∃ lt,zaW wd cs (k:Int)=lt:=⟨_,rfl⟩
 rw[elt]
 have hL1:w1.heap[gl]?=some (.cells arrL 3):=(hb1.block gl hgl).trans HL.out
 have hF1:w1.heap[gf]?=some (.cells arrF 27):=(hb1.block gf hgf).trans HF.out
 have cl:w1.cell? ⟨gl,k,none⟩=some arrL[k]:=by rw[cell_of_row _ _ _ _ _ _ hL1];exact Array.getElem?_eq_getElem (by omega)
 have fl:w1.frozen? ⟨gl,k,none⟩=false:=frozen_of_row _ _ _ _ _ hL1
 have hL2:(w1.setCell ⟨gl,k,none⟩ (.int .i64 lt)).heap[gl]?=some (.cells (arrL.setIfInBounds k (.int .i64 lt)) 3):=heap_setCell_same w1 gl k _ _ _ hL1
 have hF2:(w1.setCell ⟨gl,k,none⟩ (.int .i64 lt)).heap[gf]?=some (.cells arrF 27):=(Below.heap_setCell _ _ _ _ (fun e=>hlf e.symm)).trans hF1
 have hC2:zai (w1.setCell ⟨gl,k,none⟩ (.int .i64 lt)) a cs:=by
  rcases h.below hb1 with q|⟨b,off,rfl,hbl,hc⟩
  ·exact .inl q
  ·refine .inr ⟨b,off,rfl,by simpa using hbl,fun i hi=>?_⟩
   have hne:=(hca b off rfl).1
   rw[World.cell?_of_block (w:=w1) (a:=⟨b,_,none⟩) (Below.heap_setCell _ _ _ _ hne),World.cell?_of_block (w:=w1) (a:=⟨b,_,none⟩) (Below.heap_setCell _ _ _ _ hne)]
   exact hc i hi
 have hT2:ziU (w1.setCell ⟨gl,k,none⟩ (.int .i64 lt)) C:=⟨fun i q=>by rw[show (w1.setCell ⟨gl,k,none⟩ (.int .i64 lt)).tape=w1.tape from rfl,hb1.tape];exact hT.1 i q,hT.2⟩
 have hz1:=hb1.size
 have hfr2:∀ b,b<w.heap.size->b≠gl->(w1.setCell ⟨gl,k,none⟩ (.int .i64 lt)).heap[b]?=w.heap[b]?:=fun b hb hne=>(Below.heap_setCell _ _ _ _ hne).trans (hb1.block b hb)
 have hsz2:w1.heap.size<=(w1.setCell ⟨gl,k,none⟩ (.int .i64 lt)).heap.size:=by simp
 go_wp2_with fail
 obtain⟨w2,hw2⟩:∃ w2,w2=w1.setCell ⟨gl,k,none⟩ (.int .i64 lt):=⟨_,rfl⟩
 have ho2:w2.os=w.os/\w2.tape=w.tape/\w2.output=w.output:=by rw[hw2];exact⟨hb1.os,hb1.tape,hb1.output⟩
 rw[<- hw2] at hL2 hF2 hC2 hT2 hfr2 hsz2 ⊢
 clear hw2 cl fl hL1 hF1 hb1 HL HF
 refine(zel wd a cap cs w2 hC2 hm k).mono ?_
 rintro e w3 ⟨v,rfl,hZ,hrm,hb3⟩
 have hvs:∃ xa xn xc,v=.slice xa xn xc:=by
  rcases hZ with ⟨q,_⟩|⟨g,c,q,_⟩
  ·exact⟨_,_,_,q⟩
  ·exact⟨_,_,_,q⟩
 obtain⟨xa,xn,xc,rfl⟩:=hvs
 have hz3:=hb3.size
 have hL3:w3.heap[gl]?=some (.cells (arrL.setIfInBounds k (.int .i64 lt)) 3):=(hb3.block gl (by omega)).trans hL2
 have hF3:w3.heap[gf]?=some (.cells arrF 27):=(hb3.block gf (by omega)).trans hF2
 have cf:w3.cell? ⟨gf,k,none⟩=some arrF[k]:=by rw[cell_of_row _ _ _ _ _ _ hF3];exact Array.getElem?_eq_getElem (by omega)
 have ff:w3.frozen? ⟨gf,k,none⟩=false:=frozen_of_row _ _ _ _ _ hF3
 have hL4:(w3.setCell ⟨gf,k,none⟩ (.slice xa xn xc)).heap[gl]?=some (.cells (arrL.setIfInBounds k (.int .i64 lt)) 3):=(Below.heap_setCell _ _ _ _ hlf).trans hL3
 have hF4:(w3.setCell ⟨gf,k,none⟩ (.slice xa xn xc)).heap[gf]?=some (.cells (arrF.setIfInBounds k (.slice xa xn xc)) 27):=heap_setCell_same w3 gf k _ _ _ hF3
 have hfr4:∀ b,b<w.heap.size->b≠gl->b≠gf->(w3.setCell ⟨gf,k,none⟩ (.slice xa xn xc)).heap[b]?=w.heap[b]?:=fun b hb h1 h2=>((Below.heap_setCell _ _ _ _ h2).trans (hb3.block b (by omega))).trans (hfr2 b hb h1)
 have hZ4:zdy (w3.setCell ⟨gf,k,none⟩ (.slice xa xn xc)) w.heap.size 3 (.slice xa xn xc) (zaH wd cs k):=by
  rcases hZ with q|⟨g,c,q1,q2,q3,q4,q5,q6⟩
  ·exact .inl q
  ·exact .inr ⟨g,c,q1,by omega,q3,q4,q5,(Below.heap_setCell _ _ _ _ (by show g≠gf;omega)).trans q6⟩
 have hrm4:=hrm C hT2 hlen
 have ho4:(w3.setCell ⟨gf,k,none⟩ (.slice xa xn xc)).os=w.os/\(w3.setCell ⟨gf,k,none⟩ (.slice xa xn xc)).tape=w.tape/\(w3.setCell ⟨gf,k,none⟩ (.slice xa xn xc)).output=w.output:=⟨hb3.os.trans ho2.1,hb3.tape.trans ho2.2.1,hb3.output.trans ho2.2.2⟩
 have hsz4:w.heap.size<=(w3.setCell ⟨gf,k,none⟩ (.slice xa xn xc)).heap.size:=by simp;omega
 subst elt
 clear hL3 hF3 hb3 hZ hrm
 go_wp2_with fail
 exact hK _ _ _ _ _ _ _ hZ4 hrm4 hL4 hF4 hfr4 hsz4 ho4
theorem zqN(wd:Int)(a:Option Addr)(cap:Nat)(cs:List (Int × Int))(w:World)(M gc gl gf:Nat)(u1 u2 u3 u4 u5 u11 u12 u13 u14 u15 u16 u17 u18 u19 u20 u21:Value){Q:Exit->Act->World->Prop}(hK:∀ u11,Q (.exit 1) ⟨#[.agg #[.int .i64 wd,.slice a cs.length cap],u1,u2,u3,u4,u5,.agg #[.int .i64 wd,.slice (some ⟨gc,0,none⟩) cs.length cs.length],.int .i64 (M:Int),.slice (some ⟨gl,0,none⟩) M M,.slice (some ⟨gf,0,none⟩) M M,.int .i64 ((M:Int)),u11,u12,u13,u14,u15,u16,u17,u18,u19,u20,u21],[]⟩ w) :
  scL.wp SqP.prog Q ⟨#[.agg #[.int .i64 wd,.slice a cs.length cap],u1,u2,u3,u4,u5,.agg #[.int .i64 wd,.slice (some ⟨gc,0,none⟩) cs.length cs.length],.int .i64 (M:Int),.slice (some ⟨gl,0,none⟩) M M,.slice (some ⟨gf,0,none⟩) M M,.int .i64 ((M:Int)),u11,u12,u13,u14,u15,u16,u17,u18,u19,u20,u21],[]⟩ w:=by
 have bl:decide ((M:Int)<(M:Int))=false:=decide_eq_false (by omega)
 unfold scL
 simp only[opr]
 go_wp2_with fail
 exact hK _
theorem zqa(wd:Int)(a:Option Addr)(cap:Nat)(cs:List (Int × Int))(w:World)(h:zai w a cs)(hm:cs.length<4611686018427387904)(hk:okG wd cs=true)(u1 u2 u3 u4 u5 u6 u7 u8 u9 u10 u11 u12 u13 u14 u15 u16 u17 u18 u19 u20 u21:Value){Q:Exit->Act->World->Prop}(hK:∀ w',Below w.heap.size w w'->Q .normal ⟨#[.agg #[.int .i64 wd,.slice a cs.length cap],u1,u2,.bool true,u4,u5,u6,u7,u8,u9,u10,u11,u12,u13,u14,u15,u16,u17,u18,u19,u20,u21],[]⟩ w') :
  scG.wp SqP.prog Q ⟨#[.agg #[.int .i64 wd,.slice a cs.length cap],u1,u2,u3,u4,u5,u6,u7,u8,u9,u10,u11,u12,u13,u14,u15,u16,u17,u18,u19,u20,u21],[]⟩ w:=by
 have HK:Hid (∀ w',Below w.heap.size w w'->Q .normal ⟨#[.agg #[.int .i64 wd,.slice a cs.length cap],u1,u2,.bool true,u4,u5,u6,u7,u8,u9,u10,u11,u12,u13,u14,u15,u16,u17,u18,u19,u20,u21],[]⟩ w'):=hK
 unfold scG
 simp only[opr]
 go_wp2_with fail
 refine(zbD _ _ _ cs _ h (by omega)).mono ?_
 rintro e w2 ⟨rfl,hb2⟩
 rw[hk]
 go_wp2_with fail
 first|exact hb2|exact HK.out _ hb2
theorem zp9(wd:Int)(a:Option Addr)(cap:Nat)(cs:List (Int × Int))(w:World)(h:zai w a cs)(hm:cs.length<=1048576)(hl:0<cs.length)(M:Nat)(hM:zcl wd cs=(M:Int))(hM20:M<=20)(u1 u2 u3 u4 u5 u6 u7 u8 u9 u10 u11 u12 u13 u14 u15 u16 u17 u18 u19 u20 u21:Value){Q:Exit->Act->World->Prop}(hK:∀(gc gl gf:Nat) (w':World),Own w' w.heap.size (.slice (some ⟨gc,0,none⟩) cs.length cs.length) cs->w'.heap[gl]?=some (.cells (madeCells #[.int .i64 0] M) 3)->w'.heap[gf]?=some (.cells (madeCells #[.slice none 0 0] M) 27)->w.heap.size<=gc->gc<gl->gl<gf->Below w.heap.size w w'->Q .normal ⟨#[.agg #[.int .i64 wd,.slice a cs.length cap],u1,u2,u3,u4,u5,.agg #[.int .i64 wd,.slice (some ⟨gc,0,none⟩) cs.length cs.length],.int .i64 (M:Int),.slice (some ⟨gl,0,none⟩) M M,.slice (some ⟨gf,0,none⟩) M M,.int .i64 (0),u11,u12,u13,u14,u15,u16,u17,u18,u19,u20,u21],[]⟩ w') :
  scA.wp SqP.prog Q ⟨#[.agg #[.int .i64 wd,.slice a cs.length cap],u1,u2,u3,u4,u5,u6,u7,u8,u9,u10,u11,u12,u13,u14,u15,u16,u17,u18,u19,u20,u21],[]⟩ w:=by
 have hmk:=(zkn (aLt:=Sq.altP)) M (by omega)
 have hmk2:=zgD M (by omega)
 have HM:Hid (zcl wd cs=(M:Int)):=hM
 clear hM
 unfold scA
 simp only[opr]
 go_wp2_with fail
 refine(zew wd a cap cs w h hm hl).mono ?_
 rintro e w1 ⟨gc,rfl,hO1,hb1⟩
 have hz1:=hb1.size
 have hgc:=hO1.lt
 go_wp2_with fail
 refine(zcU wd a cap cs w1 (h.below hb1) hm).mono ?_
 rintro e w2 ⟨rfl,hb2⟩
 rw[HM.out]
 have hz2:=hb2.size
 have hB2:=zak hb1 hz1 hb2
 have hO2:=hO1.below hb2
 go_wp2_with fail
 have hbA:Below w2.heap.size w2 ((w2.alloc (.cells (madeCells #[.int .i64 0] M) 3)).alloc (.cells (madeCells #[.slice none 0 0] M) 27)):=bel
 refine hK gc w2.heap.size (w2.heap.size+1) _ (hO2.below hbA) ?_ ?_ hgc.1 (by omega) (by omega) (zak hB2 hB2.size hbA)
 ·rw[Below.heap_alloc _ _ _ (by simp)]
  exact heap_alloc_new w2 _
 ·have:=heap_alloc_new (w2.alloc (.cells (madeCells #[.int .i64 0] M) 3)) (.cells (madeCells #[.slice none 0 0] M) 27)
  simpa using this
theorem zrz(wd:Int)(a:Option Addr)(cap:Nat)(cs:List (Int × Int))(w:World)(M gc gl gf:Nat)(u1 u2 u3 u4 u5 u11 u12 u13 u14 u15 u16 u17 u18 u19 u20 u21:Value){Q:Exit->Act->World->Prop}(hK:∀(a':Act) (w':World),a'.defers=[]->Below w.heap.size w w'->(results (zlx Tryz.f8) a'.tmps).run SqP.prog w'=.ok (.tuple #[.agg #[.int .i64 wd,.slice (some ⟨gc,0,none⟩) cs.length cs.length,.slice (some ⟨gl,0,none⟩) M M,.slice (some ⟨gf,0,none⟩) M M],.bool true]) w'->Q .ret a' w') :
  (Code.seq scZ .ret).wp SqP.prog Q ⟨#[.agg #[.int .i64 wd,.slice a cs.length cap],u1,u2,u3,u4,u5,.agg #[.int .i64 wd,.slice (some ⟨gc,0,none⟩) cs.length cs.length],.int .i64 (M:Int),.slice (some ⟨gl,0,none⟩) M M,.slice (some ⟨gf,0,none⟩) M M,.int .i64 ((M:Int)),u11,u12,u13,u14,u15,u16,u17,u18,u19,u20,u21],[]⟩ w:=by
 unfold scZ
 simp only[opr]
 go_wp2_with fail
 refine hK _ _ rfl bel ?_
 simp[results,SqP.results8,Tryz.results8,go_sem]
