/- Part. -/
import Derived.Test.YtbggojblgbeohaaGreatLAv
import Derived.Test.YtbggojblgbeohaaGreatLBa
import Derived.Test.YtbggojblgbeohaaGreatLBc
set_option maxHeartbeats 800000
set_option linter.unusedVariables false
namespace Go.Proofs.YtbggojblgbeohaaGreat
variable{K:Act->World->Prop}{k wd wd':Int}{ka sg ta:Int->Int}{cs cs' ct:List (Int × Int)}{xs:List Value}{H W X:Nat}{P:Program}{w:World}
namespace Sp
variable{aLt:Nat->Func->Func}
open Go.RowKit
theorem zeZ(wd:Int)(a:Option Addr)(cap:Nat)(cs:List (Int × Int))(w:World)(hC:zai w a cs)(hm:cs.length<=1048576)(hlen:0<cs.length) :
  Calls (SqG.prog aLt) 19 #[.agg #[.int .i64 wd,.slice a cs.length cap]] w fun e w'=>∃ g,e=.returned (.agg #[.int .i64 wd,.slice (some ⟨g,0,none⟩) cs.length cs.length])/\Own w' w.heap.size (.slice (some ⟨g,0,none⟩) cs.length cs.length) cs/\Below w.heap.size w w':=by
 obtain⟨i0,hi,iz0,iz1,iz2⟩:=info_parts (zdh (aLt:=aLt))
 go_enter SqG.func19,Tryz.ntmps19
 go_wp2_with (at_make;refine wpList_make_full _ rfl _ _ 23 rfl w.heap.size 50 i0 (.agg #[.int .i64 0,.int .i64 0]) 2 SqG.underlying23 hi iz0 iz1 .i64 .i64 _ _ cs.length rfl rfl rfl rfl ?_ ?_ ?_ ?_)
 ·rw[iz2];omega
 ·unfold maxLen;omega
 ·simp;omega
 intro w3 hO3 hg3
 have hb3:=(Below.refl _ _).grown hg3 (Nat.le_refl _) (fun k hk=>by cases hk)
 have hz3:=hb3.size
 have hB3:Below w.heap.size w w3:=zak bel (by simp;omega) hb3
 have p0:w3.cell? ⟨w.heap.size,0,none⟩=some (.int .i64 wd):=zab hb3 (by simp[go_sem])
 have p1:w3.cell? ⟨w.heap.size,1,none⟩=some (.slice a cs.length cap):=zab hb3 (by simp[go_sem])
 have p4:w3.cell? ⟨w.heap.size+1,0,none⟩=some (.int .i64 0):=zab hb3 (by simp[go_sem])
 have p5:w3.cell? ⟨w.heap.size+1,1,none⟩=some (.slice none 0 0):=zab hb3 (by simp[go_sem])
 have f4:w3.frozen? ⟨w.heap.size+1,0,none⟩=false:=zaj hb3 (v:=.int .i64 0) (by simp[go_sem]) (by simp[go_sem])
 have f5:w3.frozen? ⟨w.heap.size+1,1,none⟩=false:=zaj hb3 (v:=.slice none 0 0) (by simp[go_sem]) (by simp[go_sem])
 clear hg3 hb3
 simp at hz3 hO3
 have hC3:=hC.below hB3
 rcases hC3 with h0|⟨b,off,rfl,hbl,hcell⟩
 ·rw[h0] at hlen;simp at hlen
 go_wp2_with (refine znJ rfl (.tmp 8) (.tmp 10) 23 23 rfl 50 SqG.underlying23 zqM w.heap.size (w.heap.size+1+1) cs.length cs.length _ ⟨b,off,none⟩ cap rfl rfl hO3 (flat cs) (zfv cs) ?_ ?_ ?_)
 ·exact ziS hcell
 ·exact zlk cs
 intro w4 hO4 hg4
 have hOw:Own w4 w.heap.size (.slice (some ⟨w.heap.size+1+1,0,none⟩) cs.length cs.length) cs:=hO4
 have hB4:Below w.heap.size w w4:=hB3.grown hg4 (by omega) (fun k hk=>by simp at hk;omega)
 have hz4:=hg4.size
 have hne:∀ x,x<w.heap.size+1+1->some x≠some (w.heap.size+1+1):=by intro x hx;simp;omega
 replace f4:=(World.frozen?_of_block (a:=⟨w.heap.size+1,0,none⟩) (hg4.block (w.heap.size+1) (by omega) (hne _ (by omega)))).trans f4
 replace f5:=(World.frozen?_of_block (a:=⟨w.heap.size+1,1,none⟩) (hg4.block (w.heap.size+1) (by omega) (hne _ (by omega)))).trans f5
 replace p0:=hg4.cell p0 (hne _ (by simp;omega))
 replace p1:=hg4.cell p1 (hne _ (by simp;omega))
 replace p4:=hg4.cell p4 (hne _ (by simp))
 replace p5:=hg4.cell p5 (hne _ (by simp))
 clear hO4 hg4 hcell hne hC hO3
 go_wp2
 refine bodyPost_ret (v:=.agg #[.int .i64 wd,.slice (some ⟨w.heap.size+1+1,0,none⟩) cs.length cs.length]) (by simp[results,Tryz.results19,go_sem,p4,p5]) rfl ⟨_,rfl,?_,?_⟩
 ·exact(hOw.other (by simp) _).other (by simp) _
 ·exact(hB4.setCell (by simp) _).setCell (by simp) _
theorem zgE{ops:Array Oper}{o:Oper}{a:Act}{Q:Exit->Act->World->Prop}{E:Prop}(hgd:o.guard=none)(s x:Operand)(t:TypeId)(ho:o.op=.call { callee:=.builtin .append,args:=#[s,x],argTypes:=#[t,t] })(base:Nat)(e:TypeId)(i:TypeInfo)(z:Value)(size bytes:Nat)(ht:P.underlying t=some (.slice e))(hi:P.info? e=some i)(hz:i.zero=some z)(hsize:i.size=size)(hby:i.bytes=bytes)(hzs:z.cells.size=size)(hsz:0<size)(v:Value)(n:Nat)(xs:List Value)(hs:a.eval s=v)(hown:w.ownsRow base e size v n xs)(ad:Addr)(m c:Nat)(news:List Value)(hx:a.eval x=.slice (some ad) m c)(hl:news.length=m * size)(hnews:∀ j u,news[j]?=some u->w.cell? (ad.add j)=some u)(h1:∀ u∈news,u.oneCell'=true)(h63:n+m<=maxLen)(hbytes:(n+m) * bytes<=140737488355328)(hbase:base<=w.heap.size)(h:∀ v' w',w'.ownsRow base e size v' (n+m) (xs++news)->w.grownBy w' v.ownBlock->(v'=.slice none 0 0 ↔ v=.slice none 0 0/\m=0)->K (a.put o.dst v') w') :
  if Region.wanted o (yielded ops a.tmps)=true then Oper.wp P o a w K Q else E:=by
 have hw:Region.wanted o (yielded ops a.tmps)=true:=by simp[Region.wanted,hgd]
 rw[if_pos hw]
 exact wp_append_own w s x t ho base e i z size bytes ht hi hz hsize hby hzs hsz v n xs hs hown ad m c news hx hl hnews h1 h63 hbytes hbase h
theorem zqy{B:Nat}{e:TypeId}{size:Nat}{v:Value}{n:Nat}(h:w.ownsRow B e size v n xs)(hn:0<n):∃ g cap,v=.slice (some ⟨g,0,none⟩) n cap/\B<=g/\g<w.heap.size:=by
 rcases h.2 with ⟨_,h0⟩|⟨g,cap,cur,hv,hB,hg,_⟩
 ·omega
 ·exact⟨g,cap,hv,hB,(gei hg).1⟩
theorem zmH(w:World)(B:Nat)(e:TypeId)(size:Nat)(hB:B<=w.heap.size):(w.alloc (.cells #[] e)).ownsRow B e size (.slice (some ⟨w.heap.size,0,none⟩) 0 0) 0 []:=by
 refine⟨by simp,Or.inr ⟨w.heap.size,0,#[],rfl,hB,heap_alloc_new w _,Nat.le_refl _,by unfold maxLen;omega,by simp,by simp⟩⟩
theorem zmq(wd:Int)(b off cap:Nat)(cs:List (Int × Int))(w:World)(hbl:b<w.heap.size)(hcell:∀ i,i<cs.length->w.cell? ⟨b,off+i * 2,none⟩=some (.int .i64 (cs.getD i (0,0)).1)/\w.cell? ⟨b,off+i * 2+1,none⟩=some (.int .i64 (cs.getD i (0,0)).2))(hm:cs.length<=1048576)(hp:0<cs.length) :
  Calls (SqG.prog aLt) 16 #[.agg #[.int .i64 wd,.slice (some ⟨b,off,none⟩) cs.length cap]] w fun e w'=>∃ g cap',e=.returned (.agg #[.int .i64 wd,.slice (some ⟨g,0,none⟩) cs.length cap'])/\Own w' w.heap.size (.slice (some ⟨g,0,none⟩) cs.length cap') cs/\Below w.heap.size w w':=by
 obtain⟨i0,hi,iz0,iz1,iz2⟩:=info_parts (zdh (aLt:=aLt))
 go_enter SqG.func16,Tryz.ntmps16
 go_wp2_with fail
 have hE:((((w.alloc (.cells #[.int .i64 wd,.slice (some ⟨b,off,none⟩) cs.length cap] 25)).alloc (.cells #[.int .i64 0,.slice none 0 0] 25)).alloc (.cells #[] 50)).drew).ownsRow w.heap.size 50 2 (.slice (some ⟨w.heap.size+1+1,0,none⟩) 0 0) 0 [] :=
  World.ownsRow.drew (by have:=zmH ((w.alloc (.cells #[.int .i64 wd,.slice (some ⟨b,off,none⟩) cs.length cap] 25)).alloc (.cells #[.int .i64 0,.slice none 0 0] 25)) w.heap.size 50 2 (by simp;omega);simpa using this)
 have hB3:Below w.heap.size w ((((w.alloc (.cells #[.int .i64 wd,.slice (some ⟨b,off,none⟩) cs.length cap] 25)).alloc (.cells #[.int .i64 0,.slice none 0 0] 25)).alloc (.cells #[] 50)).drew):=bel
 have hSrc:∀ j u,(flat cs)[j]?=some u->((((w.alloc (.cells #[.int .i64 wd,.slice (some ⟨b,off,none⟩) cs.length cap] 25)).alloc (.cells #[.int .i64 0,.slice none 0 0] 25)).alloc (.cells #[] 50)).drew).cell? ((⟨b,off,none⟩:Addr).add j)=some u:=by
  intro j u hj
  rw[hB3.cell (by unfold Addr.add;split <;> exact hbl)]
  exact ziS hcell j u hj
 have HE:=hE
 have HSrc:=hSrc
 clear hE hSrc hcell
 go_region_law (refine zgE rfl (.tmp 5) (.tmp 7) 23 rfl w.heap.size 50 i0 _ 2 16 SqG.underlying23 hi iz0 iz1 iz2 rfl (by decide) (.slice (some ⟨w.heap.size+1+1,0,none⟩) 0 0) 0 [] rfl HE ⟨b,off,none⟩ cs.length cap (flat cs) rfl (zfv cs) HSrc (zlk cs) (by unfold maxLen;omega) (by omega) (by simp;omega) ?_;intro v' w1 hO1 hg1 hn1;simp only[Nat.zero_add,List.nil_append] at hO1;obtain⟨g,cap',hv,hgB,hgl⟩:=zqy hO1 hp;subst hv;have q2:w1.cell? ⟨w.heap.size,0,none⟩=some (.int .i64 wd):=hg1.cell (by simp[go_sem]) (by simp[Value.ownBlock];omega);have q0:w1.cell? ⟨w.heap.size+1,0,none⟩=some (.int .i64 0):=hg1.cell (by simp[go_sem]) (by simp[Value.ownBlock]);have q1:w1.cell? ⟨w.heap.size+1,1,none⟩=some (.slice none 0 0):=hg1.cell (by simp[go_sem]) (by simp[Value.ownBlock]);have f0:w1.frozen? ⟨w.heap.size+1,0,none⟩=false:=(World.frozen?_of_block (a:=⟨w.heap.size+1,0,none⟩) (hg1.block (w.heap.size+1) (by simp) (by simp[Value.ownBlock]))).trans (by simp[go_sem]);have f1:w1.frozen? ⟨w.heap.size+1,1,none⟩=false:=(World.frozen?_of_block (a:=⟨w.heap.size+1,1,none⟩) (hg1.block (w.heap.size+1) (by simp) (by simp[Value.ownBlock]))).trans (by simp[go_sem]))
 all_goals
  go_wp2
  have hB1:Below w.heap.size w w1:=hB3.grown hg1 (by simp;omega) (fun k hk=>by simp[Value.ownBlock] at hk;omega)
  have hgne:g≠w.heap.size+1:=by
   intro hx
   subst hx
   have hO:Own w1 w.heap.size (.slice (some ⟨w.heap.size+1,0,none⟩) cs.length cap') cs:=hO1
   have hc:=(hO.cell rfl 0 hp).1
   have hc2:=(hO.cell rfl 0 hp).2.1
   simp only[Nat.zero_mul,Nat.zero_add] at hc2
   rw[q1] at hc2
   simp at hc2
  refine bodyPost_ret (v:=.agg #[.int .i64 wd,.slice (some ⟨g,0,none⟩) cs.length cap']) (by simp[results,Tryz.results16,go_sem,q0,q1]) rfl ⟨g,cap',rfl,?_,?_⟩
  ·exact(Own.other (Own.other hO1 hgne _) hgne _)
  ·exact(hB1.setCell (by simp) _).setCell (by simp) _
end Sp
namespace Sp
open Go.RowKit
theorem zly(s:Nat->Nat)(j x:Nat)(hj:j<cs.length)(hx:x<cs.length)(h:s j=x):ltC (perm s other cs) (j:Int)=ltC cs (x:Int):=by
 unfold ltC perm
 simp only[Int.toNat_natCast,List.getD_eq_getElem?_getD,List.getElem?_map,List.getElem?_range hj,Option.map_some,Option.getD_some,other,h]
theorem zsp(l:List (Int × Int × Int))(h:∀ t∈l,t.1=2->ltC cs' (sg t.2.1)=ltC cs t.2.1):zdd cs' (l.map (mvE sg ka))=zdd cs l:=by
 induction l with
 | nil=>rfl
 | cons t r ih =>
  simp only[List.map_cons,zdd]
  rw[ih (fun u hu=>h u (by simp[hu]))]
  congr 1
  by_cases c:t.1=2
  ·have hq:=h t (by simp) c
   have e1:(mvE sg ka t).2.1=sg t.2.1:=by simp[mvE,c]
   rw[if_pos (show (mvE sg ka t).1=2 from c),if_pos c,e1,hq];rfl
  ·rw[if_neg (show ¬ (mvE sg ka t).1=2 from c),if_neg c]
theorem zjR(S:Sym wd cs wd' cs' sg ta ka)(hlt:∀ x,0<=x/\x<(cs.length:Int)->ltC cs' (sg x)=ltC cs x)(hk:inS wd cs k=true)(hk':inS wd' cs' (ka k)=true)(hr:∀ x d,za7 wd cs k=(x,d,true)->za7 wd' cs' (ka k)=(sg x,ta d,true)) :
  zaJ wd' cs' (ka k)=zaJ wd cs k:=by
 obtain⟨x,d,r1⟩:=zoc hk
 have hs:=(zbP r1).1
 have hT:=zeu hk
 unfold zaJ
 rw[zfM hk' (hr x d r1),zl1 S 707 x d 64 hs]
 rw[zfM hk r1] at hT ⊢
 exact zsp _ fun t ht h2=>hlt _ ((zh4 (zd7 hk) (hT.ends t ht)).2 h2).1
theorem zr6(S:Siz wd cs W H)(x:Int)(hx:0<=x/\x<(cs.length:Int)):ltC (perm (zaO W H) other cs) (tuX W H x)=ltC cs x:=by
 have hW:=S.hW
 have hH:=S.hH
 obtain⟨X,hX⟩:=Int.eq_ofNat_of_zero_le hx.1
 have h3:X<W * H:=by have:=hx.2;rw[hX,S.el] at this;exact_mod_cast this
 subst hX
 obtain⟨hj,_,hdv,hmd⟩:=zeX W H X hW hH h3
 have hinv:=(zfO W H (X % W * H+H - 1 - X / W) X hW hH hj h3).2 rfl
 have ec:tuX (W:Int) (H:Int) (X:Int)=((X % W * H+H - 1 - X / W:Nat):Int):=by
  unfold tuX
  rw[<- Int.natCast_emod,<- Int.natCast_ediv,<- Int.natCast_mul]
  have:X / W<=H - 1:=by omega
  omega
 rw[ec]
 exact zly _ _ X (by rw[S.el];exact hj) (by rw[S.el];exact h3) hinv
theorem zr5(S:Siz wd cs W H)(x:Int)(hx:0<=x/\x<(cs.length:Int)):ltC (perm (zaN W) other cs) (flX W x)=ltC cs x:=by
 have hW:=S.hW
 have hH:=S.hH
 obtain⟨X,hX⟩:=Int.eq_ofNat_of_zero_le hx.1
 have h3:X<W * H:=by have:=hx.2;rw[hX,S.el] at this;exact_mod_cast this
 subst hX
 have hmod:(W * H) % W=0:=Nat.mul_mod_right W H
 obtain⟨hj,_,hmd⟩:=zeK W X (W * H) hW hmod h3
 have hinv:=(zfw W (X / W * W+W - 1 - X % W) X (W * H) hW hmod hj h3).2 rfl
 have ec:flX (W:Int) (X:Int)=((X / W * W+W - 1 - X % W:Nat):Int):=by
  unfold flX
  rw[<- Int.natCast_emod,<- Int.natCast_ediv,<- Int.natCast_mul]
  have:X % W<=W - 1:=by omega
  omega
 rw[ec]
 exact zly _ _ X (by rw[S.el];exact hj) (by rw[S.el];exact h3) hinv
theorem znK(n:Nat)(p q:Nat->Bool)(s t:Nat->Nat)(hs:∀ i,i<n->s i<n/\t (s i)=i)(hpq:∀ i,i<n->q (s i)=p i)(hq:∀ j,j<n->q j=true->∃ i,i<n/\s i=j):((List.range n).filter q).length=((List.range n).filter p).length:=by
 have hp:(((List.range n).filter p).map s).Perm ((List.range n).filter q):=by
  refine(List.perm_ext_iff_of_nodup ?_ (List.nodup_range.filter _)).2 fun j=>?_
  ·rw[List.Nodup,List.pairwise_map]
   refine(List.nodup_range.filter p).imp_of_mem fun {a b} ha hb hne e=>?_
   have ha':=(hs a (List.mem_range.1 (List.mem_filter.1 ha).1)).2
   have hb':=(hs b (List.mem_range.1 (List.mem_filter.1 hb).1)).2
   rw[e] at ha'
   exact hne (ha'.symm.trans hb')
  ·simp only[List.mem_map,List.mem_filter,List.mem_range]
   constructor
   ·rintro⟨i,⟨h1,h2⟩,rfl⟩
    exact⟨(hs i h1).1,(hpq i h1).trans h2⟩
   ·rintro⟨h1,h2⟩
    obtain⟨i,h3,rfl⟩:=hq j h1 h2
    exact⟨i,⟨h3,(hpq i h3).symm.trans h2⟩,rfl⟩
 rw[<- hp.length_eq,List.length_map]
theorem zlm(S:Sym wd cs wd' cs' sg ta ka)(hl:cs'.length=cs.length)(s t:Nat->Nat)(hs:∀ i,i<cs.length->(s i<cs.length/\t (s i)=i)/\sg (i:Int)=(s i:Int))(hk:inS wd cs k=true)(hk':inS wd' cs' (ka k)=true)(hr:∀ x d,za7 wd cs k=(x,d,true)->za7 wd' cs' (ka k)=(sg x,ta d,true)) :
  (zaM wd' cs' (ka k)).length=(zaM wd cs k).length:=by
 obtain⟨x,d,r1⟩:=zoc hk
 have hs':=(zbP r1).1
 have hT:=zeu hk
 have e:(zaL wd' cs' (ka k)).1=(zaL wd cs k).1.map (mvV sg ta):=by
  rw[zfM hk' (hr x d r1),zl1 S 707 x d 64 hs',zfM hk r1];rfl
 have hv:∀ u∈(zaL wd cs k).1,∃ U:Nat,u.1=(U:Int)/\U<cs.length:=fun u hu=>by
  have h1:=(hT.vis u hu).1.1
  obtain⟨U,hU⟩:=Int.eq_ofNat_of_zero_le h1.1
  exact⟨U,hU,by have:=h1.2;omega⟩
 unfold zaM zaP
 rw[e,hl,List.length_map,List.length_map]
 refine znK _ _ _ s t (fun i hi=>(hs i hi).1) (fun i hi=>?_) (fun j hj hq=>?_)
 ·unfold seenAt
  rw[Bool.eq_iff_iff,List.any_eq_true,List.any_eq_true]
  constructor
  ·rintro⟨v,hv',h⟩
   obtain⟨u,hu,rfl⟩:=List.mem_map.1 hv'
   obtain⟨U,hU,hlt⟩:=hv u hu
   have h':sg u.1=(s i:Int):=by simpa [mvV] using h
   rw[hU,(hs U hlt).2] at h'
   have h2:s U=s i:=by omega
   have h3:=(hs U hlt).1.2
   rw[h2,(hs i hi).1.2] at h3
   exact⟨u,hu,by rw[hU,h3];simp⟩
  ·rintro⟨u,hu,h⟩
   have h':u.1=(i:Int):=by simpa using h
   exact⟨_,List.mem_map_of_mem hu,by simp[mvV,h',(hs i hi).2]⟩
 ·unfold seenAt at hq
  rw[List.any_eq_true] at hq
  obtain⟨v,hv',h⟩:=hq
  obtain⟨u,hu,rfl⟩:=List.mem_map.1 hv'
  obtain⟨U,hU,hlt⟩:=hv u hu
  have h':sg u.1=(j:Int):=by simpa [mvV] using h
  rw[hU,(hs U hlt).2] at h'
  exact⟨U,hlt,by omega⟩
theorem zst(S:Siz wd cs W H)(hX:X<cs.length):(X % W * H+H - 1 - X / W<cs.length/\zaO W H (X % W * H+H - 1 - X / W)=X)/\tuX (W:Int) (H:Int) (X:Int)=((X % W * H+H - 1 - X / W:Nat):Int):=by
 have hW:=S.hW
 have hH:=S.hH
 rw[S.el] at hX ⊢
 obtain⟨hj,_,hdv,hmd⟩:=zeX W H X hW hH hX
 refine⟨⟨hj,(zfO W H (X % W * H+H - 1 - X / W) X hW hH hj hX).2 rfl⟩,?_⟩
 unfold tuX
 rw[<- Int.natCast_emod,<- Int.natCast_ediv,<- Int.natCast_mul]
 have:X / W<=H - 1:=by omega
 omega
theorem zrX(S:Siz wd cs W H)(hX:X<cs.length):(X / W * W+W - 1 - X % W<cs.length/\zaN W (X / W * W+W - 1 - X % W)=X)/\flX (W:Int) (X:Int)=((X / W * W+W - 1 - X % W:Nat):Int):=by
 have hW:=S.hW
 rw[S.el] at hX ⊢
 have hmod:(W * H) % W=0:=Nat.mul_mod_right W H
 obtain⟨hj,_,hmd⟩:=zeK W X (W * H) hW hmod hX
 refine⟨⟨hj,(zfw W (X / W * W+W - 1 - X % W) X (W * H) hW hmod hj hX).2 rfl⟩,?_⟩
 unfold flX
 rw[<- Int.natCast_emod,<- Int.natCast_ediv,<- Int.natCast_mul]
 have:X % W<=W - 1:=by omega
 omega
theorem zrf(S:Siz wd cs W H)(S':Siz (H:Int) (perm (zaO W H) other cs) H W)(hk:inS wd cs k=true) :
  (0<=zcC wd cs k/\zcC wd cs k<2 * ((W:Int)+(H:Int)))/\inS (H:Int) (perm (zaO W H) other cs) (zcC wd cs k)=true/\∀ x d,za7 wd cs k=(x,d,true)->za7 (H:Int) (perm (zaO W H) other cs) (zcC wd cs k)=(tuX W H x,tuD d,true):=by
 have hW:=S.hW
 have hH:=S.hH
 have hk2:=hk
 simp only[inS,decide_eq_true_eq,S.em] at hk2
 obtain⟨K,rfl⟩:=Int.eq_ofNat_of_zero_le hk2.1
 have hM:(0:Int)<2 * ((W:Int)+(H:Int)):=by omega
 have em2:za9 (H:Int) (perm (zaO W H) other cs)=2 * ((W:Int)+(H:Int)):=by first|(rw[S'.em];omega)|rw[S'.em]
 have ek:=zrI S (K:Int) hk2
 have r0:0<=zcC wd cs (K:Int)/\zcC wd cs (K:Int)<2 * ((W:Int)+(H:Int)):=by
  rw[ek];exact⟨Int.emod_nonneg _ (by omega),Int.emod_lt_of_pos _ hM⟩
 refine⟨r0,by unfold inS;rw[em2];exact decide_eq_true r0,?_⟩
 intro x d hr
 rw[zbY S K (by omega)] at hr
 simp only[Prod.mk.injEq] at hr
 obtain⟨K2,hK2⟩:=Int.eq_ofNat_of_zero_le r0.1
 rw[hK2,zbY S' K2 (by omega)]
 have sr:=zrF ⟨W - 1,by omega⟩ ⟨H - 1,by omega⟩ ⟨K,by omega⟩ (by simp only[show W - 1+1=W by omega,show H - 1+1=H by omega];omega)
 simp only[show W - 1+1=W by omega,show H - 1+1=H by omega,wI] at sr
 have s2:=sr.1
 rw[<- ek,hK2] at s2
 rw[s2,hr.1,hr.2.1]
theorem zpt(S:Siz wd cs W H)(S':Siz (H:Int) (perm (zaO W H) other cs) H W){k:Nat}(hk:k<2 * (W+H)) :
  ∃ A:Nat,zcC wd cs (k:Int)=(A:Int)/\A<2 * (W+H)/\zaJ (H:Int) (perm (zaO W H) other cs) (A:Int)=zaJ wd cs (k:Int)/\(zaM (H:Int) (perm (zaO W H) other cs) (A:Int)).length=(zaM wd cs (k:Int)).length:=by
 have hin:inS wd cs (k:Int)=true:=by unfold inS;rw[S.em];exact decide_eq_true (by omega)
 obtain⟨r0,hk',hr⟩:=zrf S S' hin
 obtain⟨A,hA⟩:=Int.eq_ofNat_of_zero_le r0.1
 have h1:=zjR (zl4 S S') (zr6 S) hin hk' hr
 have h2:=zlm (zl4 S S') (zcm _ _ _) (fun X=>X % W * H+H - 1 - X / W) (zaO W H) (fun i hi=>zst S hi) hin hk' hr
 rw[hA] at r0 h1 h2
 exact⟨A,hA,by omega,h1,h2⟩
theorem zqa(S:Siz wd cs W H)(S':Siz (W:Int) (perm (zaN W) other cs) W H)(hk:inS wd cs k=true) :
  (0<=zcz wd cs k/\zcz wd cs k<2 * ((W:Int)+(H:Int)))/\inS (W:Int) (perm (zaN W) other cs) (zcz wd cs k)=true/\∀ x d,za7 wd cs k=(x,d,true)->za7 (W:Int) (perm (zaN W) other cs) (zcz wd cs k)=(flX W x,flD d,true):=by
 have hW:=S.hW
 have hH:=S.hH
 have hk2:=hk
 simp only[inS,decide_eq_true_eq,S.em] at hk2
 obtain⟨K,rfl⟩:=Int.eq_ofNat_of_zero_le hk2.1
 have hM:(0:Int)<2 * ((W:Int)+(H:Int)):=by omega
 have em2:za9 (W:Int) (perm (zaN W) other cs)=2 * ((W:Int)+(H:Int)):=by first|(rw[S'.em];omega)|rw[S'.em]
 have ek:=zrs S (K:Int) hk2
 have r0:0<=zcz wd cs (K:Int)/\zcz wd cs (K:Int)<2 * ((W:Int)+(H:Int)):=by
  rw[ek];exact⟨Int.emod_nonneg _ (by omega),Int.emod_lt_of_pos _ hM⟩
 refine⟨r0,by unfold inS;rw[em2];exact decide_eq_true r0,?_⟩
 intro x d hr
 rw[zbY S K (by omega)] at hr
 simp only[Prod.mk.injEq] at hr
 obtain⟨K2,hK2⟩:=Int.eq_ofNat_of_zero_le r0.1
 rw[hK2,zbY S' K2 (by omega)]
 have sr:=zrF ⟨W - 1,by omega⟩ ⟨H - 1,by omega⟩ ⟨K,by omega⟩ (by simp only[show W - 1+1=W by omega,show H - 1+1=H by omega];omega)
 simp only[show W - 1+1=W by omega,show H - 1+1=H by omega,wI] at sr
 have s2:=sr.2
 rw[<- ek,hK2] at s2
 rw[s2,hr.1,hr.2.1]
theorem znV(S:Siz wd cs W H)(S':Siz (W:Int) (perm (zaN W) other cs) W H){k:Nat}(hk:k<2 * (W+H)) :
  ∃ A:Nat,zcz wd cs (k:Int)=(A:Int)/\A<2 * (W+H)/\zaJ (W:Int) (perm (zaN W) other cs) (A:Int)=zaJ wd cs (k:Int)/\(zaM (W:Int) (perm (zaN W) other cs) (A:Int)).length=(zaM wd cs (k:Int)).length:=by
 have hin:inS wd cs (k:Int)=true:=by unfold inS;rw[S.em];exact decide_eq_true (by omega)
 obtain⟨r0,hk',hr⟩:=zqa S S' hin
 obtain⟨A,hA⟩:=Int.eq_ofNat_of_zero_le r0.1
 have h1:=zjR (zll S S') (zr5 S) hin hk' hr
 have h2:=zlm (zll S S') (zcm _ _ _) (fun X=>X / W * W+W - 1 - X % W) (zaN W) (fun i hi=>zrX S hi) hin hk' hr
 rw[hA] at r0 h1 h2
 exact⟨A,hA,by omega,h1,h2⟩
theorem zlK(w:World)(B:Nat):Own w B (.slice none 0 0) []:=World.ownsRow_nil w B 50 2
theorem zgd(wd:Int)(a:Option Addr)(cap:Nat)(cs:List (Int × Int))(w:World)(hC:zai w a cs)(hm:cs.length<=1048576)(hno:okG wd cs=false) :
  Calls SqP.prog 8 #[.agg #[.int .i64 wd,.slice a cs.length cap]] w fun e w'=>e=.returned (.agg #[.int .i64 0,.slice none 0 0])/\Below w.heap.size w w':=by
 go_enter SqP.func8,Tryz.ntmps8
 go_wp2_with fail
 refine(zao _ _ _ cs _ (hC.below bel) (by omega)).mono ?_
 rintro e w1 ⟨rfl,hb1⟩
 have hz1:=hb1.size
 simp at hz1
 have hB1:Below w.heap.size w w1:=zak bel (by simp;omega) hb1
 have p4:w1.cell? ⟨w.heap.size+1,0,none⟩=some (.int .i64 0):=zab hb1 (by simp[go_sem])
 have p5:w1.cell? ⟨w.heap.size+1,1,none⟩=some (.slice none 0 0):=zab hb1 (by simp[go_sem])
 have f4:w1.frozen? ⟨w.heap.size+1,0,none⟩=false:=zaj hb1 (v:=.int .i64 0) (by simp[go_sem]) (by simp[go_sem])
 have f5:w1.frozen? ⟨w.heap.size+1,1,none⟩=false:=zaj hb1 (v:=.slice none 0 0) (by simp[go_sem]) (by simp[go_sem])
 clear hb1
 go_wp2
 refine bodyPost_ret (v:=.agg #[.int .i64 0,.slice none 0 0]) (by simp[results,Tryz.results8,go_sem,p4,p5]) rfl ⟨rfl,?_⟩
 exact(hB1.setCell (p:=⟨w.heap.size+1,0,none⟩) (by simp) _).setCell (p:=⟨w.heap.size+1,1,none⟩) (by simp) _
theorem zfj(wd:Int)(a:Option Addr)(cap:Nat)(cs:List (Int × Int))(w:World)(hC:zai w a cs)(hm:cs.length<=1048576) :
  Calls SqP.prog 8 #[.agg #[.int .i64 wd,.slice a cs.length cap]] w fun e w'=>∃ v,e=.returned (.agg #[.int .i64 (zhc wd cs).1,v])/\Own w' w.heap.size v (zhc wd cs).2/\Below w.heap.size w w':=by
 by_cases hok:okG wd cs=true
 ·obtain⟨W,H,rfl,h1,h2,h3,h4,h5,h6,h7⟩:=zcG wd cs hok
  rcases hC with h0|⟨b,off,rfl,hbl,hcell⟩
  ·rw[h0] at h5
   have:1 * 1<=W * H:=Nat.mul_le_mul h1 h3
   simp at h5
   omega
  refine(zfk W H b off cap cs w hbl hcell hok ⟨h1,h2⟩ ⟨h3,h4⟩ h5).mono ?_
  rintro e w' ⟨g,rfl,hO,hb⟩
  have hl:(zk4 W H cs).length=cs.length:=by simp[zk4]
  refine⟨.slice (some ⟨g,0,none⟩) cs.length cs.length,?_,?_,hb⟩
  ·simp only[zhc,hok,if_true,h7]
  ·simp only[zhc,hok,if_true,Int.toNat_natCast]
   rw[h6];exact hO
 ·have hno:okG wd cs=false:=by simpa using hok
  refine(zgd wd a cap cs w hC hm hno).mono ?_
  rintro e w' ⟨rfl,hb⟩
  refine⟨.slice none 0 0,?_,?_,hb⟩
  ·simp[zhc,hno]
  ·simp only[zhc,hno]
   exact zlK w' w.heap.size
set_option maxRecDepth 20000
theorem zgc(wd:Int)(a:Option Addr)(cap:Nat)(cs:List (Int × Int))(w:World)(hC:zai w a cs)(hm:cs.length<=1048576)(hno:okG wd cs=false) :
  Calls SqP.prog 9 #[.agg #[.int .i64 wd,.slice a cs.length cap]] w fun e w'=>e=.returned (.agg #[.int .i64 0,.slice none 0 0])/\Below w.heap.size w w':=by
 go_enter SqP.func9,Tryz.ntmps9
 go_wp2_with fail
 refine(zao _ _ _ cs _ (hC.below bel) (by omega)).mono ?_
 rintro e w1 ⟨rfl,hb1⟩
 have hz1:=hb1.size
 simp at hz1
 have hB1:Below w.heap.size w w1:=zak bel (by simp;omega) hb1
 have p4:w1.cell? ⟨w.heap.size+1,0,none⟩=some (.int .i64 0):=zab hb1 (by simp[go_sem])
 have p5:w1.cell? ⟨w.heap.size+1,1,none⟩=some (.slice none 0 0):=zab hb1 (by simp[go_sem])
 have f4:w1.frozen? ⟨w.heap.size+1,0,none⟩=false:=zaj hb1 (v:=.int .i64 0) (by simp[go_sem]) (by simp[go_sem])
 have f5:w1.frozen? ⟨w.heap.size+1,1,none⟩=false:=zaj hb1 (v:=.slice none 0 0) (by simp[go_sem]) (by simp[go_sem])
 clear hb1
 go_wp2
 refine bodyPost_ret (v:=.agg #[.int .i64 0,.slice none 0 0]) (by simp[results,Tryz.results9,go_sem,p4,p5]) rfl ⟨rfl,?_⟩
 exact(hB1.setCell (p:=⟨w.heap.size+1,0,none⟩) (by simp) _).setCell (p:=⟨w.heap.size+1,1,none⟩) (by simp) _
theorem zfh(wd:Int)(a:Option Addr)(cap:Nat)(cs:List (Int × Int))(w:World)(hC:zai w a cs)(hm:cs.length<=1048576) :
  Calls SqP.prog 9 #[.agg #[.int .i64 wd,.slice a cs.length cap]] w fun e w'=>∃ v,e=.returned (.agg #[.int .i64 (zg1 wd cs).1,v])/\Own w' w.heap.size v (zg1 wd cs).2/\Below w.heap.size w w':=by
 by_cases hok:okG wd cs=true
 ·obtain⟨W,H,rfl,h1,h2,h3,h4,h5,h6,h7⟩:=zcG wd cs hok
  rcases hC with h0|⟨b,off,rfl,hbl,hcell⟩
  ·rw[h0] at h5
   have:1 * 1<=W * H:=Nat.mul_le_mul h1 h3
   simp at h5
   omega
  refine(zfi W H b off cap cs w hbl hcell hok ⟨h1,h2⟩ ⟨h3,h4⟩ h5).mono ?_
  rintro e w' ⟨g,rfl,hO,hb⟩
  have hl:(zkj W cs).length=cs.length:=by simp[zkj]
  refine⟨.slice (some ⟨g,0,none⟩) cs.length cs.length,?_,?_,hb⟩
  ·simp only[zg1,hok,if_true]
  ·simp only[zg1,hok,if_true,Int.toNat_natCast]
   exact hO
 ·have hno:okG wd cs=false:=by simpa using hok
  refine(zgc wd a cap cs w hC hm hno).mono ?_
  rintro e w' ⟨rfl,hb⟩
  refine⟨.slice none 0 0,?_,?_,hb⟩
  ·simp[zg1,hno]
  ·simp only[zg1,hno]
   exact zlK w' w.heap.size
theorem zo2(S:Siz wd cs W H):zhc wd cs=((H:Int),perm (zaO W H) other cs)/\Siz (H:Int) (perm (zaO W H) other cs) H W:=by
 have hok:=S.ok
 rw[S.ew] at hok
 obtain⟨e,k⟩:=zq6 W H cs hok S.hW S.hH S.el
 have hl:(perm (zaO W H) other cs).length=H * W:=by rw[zcm,S.el,Nat.mul_comm]
 have hd:((perm (zaO W H) other cs).length:Int) / (H:Int)=(W:Int):=by
  rw[hl,<- Int.natCast_ediv,Nat.mul_div_cancel_left W S.hH.1]
 exact⟨by rw[S.ew];exact e,k,rfl,S.hH,S.hW,hl,hd,zbB k hd⟩
theorem zo1(S:Siz wd cs W H):zg1 wd cs=((W:Int),perm (zaN W) other cs)/\Siz (W:Int) (perm (zaN W) other cs) W H:=by
 have hok:=S.ok
 rw[S.ew] at hok
 obtain⟨e,k⟩:=zp9 W H cs hok S.hW S.hH S.el
 have hl:(perm (zaN W) other cs).length=W * H:=by rw[zcm,S.el]
 have hd:((perm (zaN W) other cs).length:Int) / (W:Int)=(H:Int):=by
  rw[hl,<- Int.natCast_ediv,Nat.mul_div_cancel_left H S.hW.1]
 exact⟨by rw[S.ew];exact e,k,rfl,S.hW,S.hH,hl,hd,zbB k hd⟩
theorem ztk{w2:Int}(hv:zhc wd cs=(w2,ct))(a:Option Addr)(cap:Nat)(w:World)(h:zai w a cs)(hm:cs.length<=1048576) :
  Calls SqP.prog 8 #[.agg #[.int .i64 wd,.slice a cs.length cap]] w fun e w'=>∃ a2 c2,e=.returned (.agg #[.int .i64 w2,.slice a2 ct.length c2])/\zai w' a2 ct/\Below w.heap.size w w':=by
 have:=zfj wd a cap cs w h hm
 rw[hv] at this
 refine this.mono ?_
 rintro e w' ⟨v,rfl,hO,hb⟩
 obtain⟨a2,c2,rfl,hC⟩:=hO.slice
 exact⟨a2,c2,rfl,hC,hb⟩
theorem zsO{w2:Int}(hv:zg1 wd cs=(w2,ct))(a:Option Addr)(cap:Nat)(w:World)(h:zai w a cs)(hm:cs.length<=1048576) :
  Calls SqP.prog 9 #[.agg #[.int .i64 wd,.slice a cs.length cap]] w fun e w'=>∃ a2 c2,e=.returned (.agg #[.int .i64 w2,.slice a2 ct.length c2])/\zai w' a2 ct/\Below w.heap.size w w':=by
 have:=zfh wd a cap cs w h hm
 rw[hv] at this
 refine this.mono ?_
 rintro e w' ⟨v,rfl,hO,hb⟩
 obtain⟨a2,c2,rfl,hC⟩:=hO.slice
 exact⟨a2,c2,rfl,hC,hb⟩
theorem ztl{m:Int}(hv:zcC wd cs k=m)(a:Option Addr)(cap:Nat)(w:World)(h:zai w a cs)(hm:cs.length<=1048576) :
  Calls SqP.prog 10 #[.agg #[.int .i64 wd,.slice a cs.length cap],.int .i64 k] w fun e w'=>e=.returned (.int .i64 m)/\Below w.heap.size w w':=by
 rw[<- hv];exact zi2 wd a cap cs w h hm k
theorem zsP{m:Int}(hv:zcz wd cs k=m)(a:Option Addr)(cap:Nat)(w:World)(h:zai w a cs)(hm:cs.length<=1048576) :
  Calls SqP.prog 11 #[.agg #[.int .i64 wd,.slice a cs.length cap],.int .i64 k] w fun e w'=>e=.returned (.int .i64 m)/\Below w.heap.size w w':=by
 rw[<- hv];exact zi1 wd a cap cs w h hm k
