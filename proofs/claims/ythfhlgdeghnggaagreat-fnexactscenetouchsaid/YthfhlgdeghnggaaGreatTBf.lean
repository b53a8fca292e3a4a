/- Part. -/
import Derived.Control
import Derived.Test.YthfhlgdeghnggaaGreatTBd
set_option maxHeartbeats 2000000
set_option linter.unusedVariables false
namespace Go.Proofs.YthfhlgdeghnggaaGreat
variable{a:Act}{Post:Act->World->Prop}{b fr fr1:Frame}{wd:Int}{gl:List (Int × Int)}{xs:List Int}{M cap:Nat}{C:Nat->Nat}{ga:Option Addr}{w w1:World}
section
open Go Go.Conc
section
variable{L:Program}{FinP:Frame->World->Prop}
theorem zcq.of_tp{cs cs1:List Frame}{τ:Nat->Question->Nat}{d:Nat}(h:zcq L fr cs (w.tp τ d) fr1 cs1 w1)(hne:fr≠fr1\/cs≠cs1):zcq L fr cs w fr1 cs1 w1:=by
 cases h with
 | refl=>rcases hne with q|q <;> exact absurd rfl q
 | step τ' d' es e k=>exact .step τ' d' es e k
theorem zcq.ctl{cs:List Frame}(h:∀ cs w,stepG L true (G fr cs) w=.go (G fr1 cs) w #[]):zcq L fr cs w fr1 cs w :=
 .step w.tape w.drawn #[] (h (cs++[zaP L]) w) .refl
theorem zh3{c:Code}{k:List Item}{cs:List Frame}(t:zbY L FinP (b.at a (.code c::k)) cs w)(τ:Nat->Question->Nat)(d:Nat)(h:c.wp L (fun e a' w'=>e=.normal/\Post a' w') a (w.tp τ d)) :
  ∃ a' w',Post a' w'/\zcq L (b.at a (.code c::k)) cs w (b.at a' k) cs w':=by
 obtain⟨e,a',w',⟨rfl,hp⟩,hs⟩:=h b k (cs++[zaP L])
 obtain⟨n,hn⟩:Steps L (lone (b.at a (.code c::k)) (cs++[zaP L]) (w.tp τ d)) (lone (b.at a' k) (cs++[zaP L]) w'):=hs
 refine⟨a',w',hp,(zbj n (t.tp τ d) hn).of_tp (.inl fun q=>?_)⟩
 have:(b.at a (.code c::k)).todo=(b.at a' k).todo:=by rw[q]
 have h2:(Item.code c::k)=k:=this
 exact absurd (congrArg List.length h2) (by simp)
theorem zqG{c:Code}{k k':List Item}{id:Nat}{cs:List Frame}(t:zbY L FinP (b.at a (.code c::k)) cs w)(τ:Nat->Question->Nat)(d:Nat)(h:c.wp L (fun e a' w'=>e=.exit id/\Post a' w') a (w.tp τ d))(hk:exitTo id k=some k')(hl:k'.length<=k.length) :
  ∃ a' w',Post a' w'/\zcq L (b.at a (.code c::k)) cs w (b.at a' k') cs w':=by
 obtain⟨e,a',w',⟨rfl,hp⟩,hs⟩:=h b k (cs++[zaP L])
 obtain⟨n,hn⟩:Steps L (lone (b.at a (.code c::k)) (cs++[zaP L]) (w.tp τ d)) (lone (b.at a' k') (cs++[zaP L]) w'):=hs k' hk
 refine⟨a',w',hp,(zbj n (t.tp τ d) hn).of_tp (.inl fun q=>?_)⟩
 have:(b.at a (.code c::k)).todo=(b.at a' k').todo:=by rw[q]
 have h2:(Item.code c::k)=k':=this
 have h3:=congrArg List.length h2
 simp at h3
 omega
theorem zqF{c:Code}{k:List Item}{c0:Frame}{cs:List Frame}{Post:Value->World->Prop}(t:zbY L FinP (b.at a (.code c::k)) (c0::cs) w)(h:c.wp L (fun e a' w'=>e=.ret/\∃ v,Post v w'/\∀ todo,({ b.at a' todo with mode:=.returning }:Frame).leaving L w' (.returned v)) a w) :
  ∃ v w',Post v w'/\zcq L (b.at a (.code c::k)) (c0::cs) w (c0.finish v) cs w':=by
 obtain⟨e,a',w',⟨rfl,v,hp,hl⟩,todo,hs⟩:=h b k (c0::cs++[zaP L])
 obtain⟨n,hn⟩:Steps L (lone (b.at a (.code c::k)) (c0::cs++[zaP L]) w) (lone { b.at a' todo with mode:=.returning } (c0::cs++[zaP L]) w'):=hs
 have d1:=zbj (cs':=c0::cs) n t hn
 have t1:=t.desc d1
 have hst:step L (lone { b.at a' todo with mode:=.returning } (c0::(cs++[zaP L])) w')=.next (lone (c0.finish v) (cs++[zaP L]) w'):=step_leave_returned (hl todo)
 refine⟨v,w',hp,d1.trans (zbj 1 t1 ?_)⟩
 simp only[runN,List.cons_append,hst]
end
end
section
open Go Go.Conc Go.ConcN Go.RowKit
def zkz(w:World)(B:Nat)(x:Value)(xs:List Int)(C:Nat):Prop:=zdL w B 3 x xs/\(x=.slice none 0 0\/zbK x=C)
structure ScI(w0 w:World)(wd:Int)(gl:List (Int × Int))(M gc bl bf k:Nat)(C:Nat->Nat)(arrL arrF:Array Value)(xs:Nat->Value):Prop where
 below:Below w0.heap.size w0 (w.tp w0.tape w0.drawn)
 grid:Sp.Own w w0.heap.size (.slice (some ⟨gc,0,none⟩) gl.length gl.length) gl
 lights:w.heap[bl]?=some (.cells arrL 3)
 feet:w.heap[bf]?=some (.cells arrF 25)
 sizeL:arrL.size=M
 sizeF:arrF.size=M
 atL:∀ j,j<k->arrL[j]?=some (.int .i64 (Sp.za3 wd gl (j:Int)))
 atF:∀ j,j<k->arrF[j]?=some (xs j)
 lt:w0.heap.size<=gc/\gc<bl/\bl<bf
 row:∀ j,j<k->zkz w w0.heap.size (xs j) (Sp.zaL wd gl (j:Int)) (C j)
 apart:∀ j,j<k->∀ b,(xs j).ownBlock=some b->bf<b
 once:∀ j j' b,j<k->j'<k->(xs j).ownBlock=some b->(xs j').ownBlock=some b->j=j'
theorem zkz.keep{w':World}{B:Nat}{x:Value}{C:Nat}(h:zkz w B x xs C)(hk:∀ b,x.ownBlock=some b->w'.heap[b]?=w.heap[b]?):zkz w' B x xs C:=by
 refine⟨?_,h.2⟩
 rcases h.1 with q|⟨g,cap,rfl,q2,q3,q4,q5,q6⟩
 ·exact .inl q
 ·exact .inr ⟨g,cap,rfl,q2,q3,q4,q5,(hk g rfl).trans q6⟩
section
variable{FinP:Frame->World->Prop}{c:Frame}{cs:List Frame}
theorem zrO{w0:World}(hCl:Sp.zak w0 ga gl)(hn:gl.length<=25)(hl:0<gl.length){gc bl bf:Nat}(hM:M<=20)(hC:∀ k,k<M->1<=C k/\C k<=maxLen/\(Sp.zaL wd gl (k:Int)).length<=C k){kk:List Item} :
  ∀(r k:Nat),k+r=M->∀(w:World) (arrL arrF:Array Value) (xs:Nat->Value) (u1 u2 u3 u4 u5 u11 u12 u13 u14 u15 u16 u17 u18 u19 u20 u21:Value),ScI w0 w wd gl M gc bl bf k C arrL arrF xs ->
   zbY SqP.prog FinP ((base 54).at ⟨#[.agg #[.int .i64 wd,.slice ga gl.length cap],u1,u2,u3,u4,u5,.agg #[.int .i64 wd,.slice (some ⟨gc,0,none⟩) gl.length gl.length],.int .i64 (M:Int),.slice (some ⟨bl,0,none⟩) M M,.slice (some ⟨bf,0,none⟩) M M,.int .i64 ((k:Int)),u11,u12,u13,u14,u15,u16,u17,u18,u19,u20,u21],[]⟩ (.code scL::.inLoop scL::.inBlock 1::kk)) (c::cs) w ->
   ∃ (w':World) (arrL' arrF':Array Value) (xs':Nat->Value) (U1 U2 U3 U4 U5 U11 U12 U13 U14 U15 U16 U17 U18 U19 U20 U21:Value),ScI w0 w' wd gl M gc bl bf M C arrL' arrF' xs' /\
    zcq SqP.prog ((base 54).at ⟨#[.agg #[.int .i64 wd,.slice ga gl.length cap],u1,u2,u3,u4,u5,.agg #[.int .i64 wd,.slice (some ⟨gc,0,none⟩) gl.length gl.length],.int .i64 (M:Int),.slice (some ⟨bl,0,none⟩) M M,.slice (some ⟨bf,0,none⟩) M M,.int .i64 ((k:Int)),u11,u12,u13,u14,u15,u16,u17,u18,u19,u20,u21],[]⟩ (.code scL::.inLoop scL::.inBlock 1::kk)) (c::cs) w ((base 54).at ⟨#[.agg #[.int .i64 wd,.slice ga gl.length cap],U1,U2,U3,U4,U5,.agg #[.int .i64 wd,.slice (some ⟨gc,0,none⟩) gl.length gl.length],.int .i64 (M:Int),.slice (some ⟨bl,0,none⟩) M M,.slice (some ⟨bf,0,none⟩) M M,.int .i64 ((M:Int)),U11,U12,U13,U14,U15,U16,U17,U18,U19,U20,U21],[]⟩ kk) (c::cs) w':=by
 intro r
 induction r with
 | zero =>
  intro k hk w arrL arrF xs u1 u2 u3 u4 u5 u11 u12 u13 u14 u15 u16 u17 u18 u19 u20 u21 hI t
  obtain rfl:k=M:=by omega
  obtain⟨a',w',⟨⟨u11',rfl⟩,rfl⟩,hd⟩:=zqG (id:=1) (k':=kk) (Post:=fun a' w'=>(∃ u11,a'=⟨#[.agg #[.int .i64 wd,.slice ga gl.length cap],u1,u2,u3,u4,u5,.agg #[.int .i64 wd,.slice (some ⟨gc,0,none⟩) gl.length gl.length],.int .i64 (k:Int),.slice (some ⟨bl,0,none⟩) k k,.slice (some ⟨bf,0,none⟩) k k,.int .i64 ((k:Int)),u11,u12,u13,u14,u15,u16,u17,u18,u19,u20,u21],[]⟩)/\w'=w) t w.tape w.drawn (Sp.zrN wd ga cap gl _ k gc bl bf u1 u2 u3 u4 u5 u11 u12 u13 u14 u15 u16 u17 u18 u19 u20 u21 (fun u11=>⟨rfl,⟨u11,rfl⟩,rfl⟩)) rfl (by simp;omega)
  exact⟨_,arrL,arrF,xs,_,_,_,_,_,_,_,_,_,_,_,_,_,_,_,_,hI,hd⟩
 | succ r ih =>
  intro k hk w arrL arrF xs u1 u2 u3 u4 u5 u11 u12 u13 u14 u15 u16 u17 u18 u19 u20 u21 hI t
  have hkM:k<M:=by omega
  obtain⟨h1,h2,h3⟩:=hC k hkM
  have hlt:=hI.lt
  have hbl:=(gei hI.lights).1
  have hbf:=(gei hI.feet).1
  have hz0:=hI.below.size
  have hca:∀ b off,ga=some ⟨b,off,none⟩->b≠bl/\b≠bf:=by
   intro b off e
   rcases hCl with q|⟨b',off',e',hbl',_⟩
   ·rw[q] at hl;simp at hl
   ·rw[e] at e'
    simp only[Option.some.injEq,Addr.mk.injEq] at e'
    have hz0':w0.heap.size<=w.heap.size:=hz0
    omega
  obtain⟨τ,hτ⟩:∃ τ:Nat->Question->Nat,τ=fun _ _=>C k - 1:=⟨_,rfl⟩
  have hT:Sp.zjp (w.tp τ 0) (C k):=⟨fun i q=>by rw[show (w.tp τ 0).tape=τ from rfl,hτ],h1,h2⟩
  have hCw0:Sp.zak (w.tp w0.tape w0.drawn) ga gl:=hCl.below hI.below
  have hCw:Sp.zak (w.tp τ 0) ga gl:=hCw0
  obtain⟨a',w',⟨v,u11',u12',u13',u14',u15',rfl,hZ,hr,hL,hF,hfr,hsz,ho⟩,hd⟩:=zh3 (Post:=fun a' w'=>∃ (v u11 u12 u13 u14 u15:Value),a'=⟨#[.agg #[.int .i64 wd,.slice ga gl.length cap],u1,u2,u3,u4,u5,.agg #[.int .i64 wd,.slice (some ⟨gc,0,none⟩) gl.length gl.length],.int .i64 (M:Int),.slice (some ⟨bl,0,none⟩) M M,.slice (some ⟨bf,0,none⟩) M M,.int .i64 ((k:Int)+1),u11,u12,u13,u14,u15,u16,u17,u18,u19,u20,u21],[]⟩/\zdL w' w.heap.size 3 v (Sp.zaL wd gl (k:Int))/\(v=.slice none 0 0\/zbK v=C k)/\w'.heap[bl]?=some (.cells (arrL.setIfInBounds k (.int .i64 (Sp.za3 wd gl (k:Int)))) 3)/\w'.heap[bf]?=some (.cells (arrF.setIfInBounds k v) 25)/\(∀ b,b<w.heap.size->b≠bl->b≠bf->w'.heap[b]?=w.heap[b]?)/\w.heap.size<=w'.heap.size/\w'.os=w.os/\w'.output=w.output) t τ 0
   (Sp.zsx wd ga cap gl (w.tp τ 0) hCw (by omega) M k gc bl bf hkM hM arrL arrF hI.lights hI.feet hI.sizeL hI.sizeF (by omega) hca (C k) hT h3 u1 u2 u3 u4 u5 u11 u12 u13 u14 u15 u16 u17 u18 u19 u20 u21 (fun v u11 u12 u13 u14 u15 w' q1 q2 q3 q4 q5 q6 q7=>⟨rfl,v,u11,u12,u13,u14,u15,rfl,q1,q2,q3,q4,q5,q6,q7.1,q7.2.2⟩))
  have hz0':w0.heap.size<=w.heap.size:=hz0
  have hrow:∀ j,j<k->∀ b,(xs j).ownBlock=some b->b<w.heap.size:=by
   intro j hj b hb
   rcases (hI.row j hj).1 with ⟨q,_⟩|⟨g,cp,q,_,_,_,_,q6⟩
   ·rw[q] at hb;simp[Value.ownBlock] at hb
   ·rw[q] at hb
    simp[Value.ownBlock] at hb
    subst hb
    exact(gei q6).1
  have hnew:∀ b,v.ownBlock=some b->w.heap.size<=b:=fun b hb=>(hZ.ownBlock b hb).1
  have hgc:=hI.grid.lt
  have hI':ScI w0 w' wd gl M gc bl bf (k+1) C (arrL.setIfInBounds k (.int .i64 (Sp.za3 wd gl (k:Int)))) (arrF.setIfInBounds k v) (fun j=>if j=k then v else xs j):=by
   refine⟨⟨ho.1.trans hI.below.os,rfl,ho.2.trans hI.below.output,Nat.le_trans hz0' hsz,fun b hb=>?_⟩,?_,hL,hF,by simpa using hI.sizeL,by simpa using hI.sizeF,fun j hj=>?_,fun j hj=>?_,hlt,fun j hj=>?_,fun j hj b hb=>?_,fun j j' b hj hj' hb hb'=>?_⟩
   ·exact(hfr b (by omega) (by omega) (by omega)).trans (hI.below.block b hb)
   ·obtain⟨g1,g2⟩:=hI.grid
    refine⟨g1,?_⟩
    rcases g2 with g2|⟨g,cp,cur,q1,q2,q3,q4⟩
    ·exact .inl g2
    ·have e:gc=g:=by simp only[Value.slice.injEq,Option.some.injEq,Addr.mk.injEq] at q1;exact q1.1.1
     subst e
     exact .inr ⟨gc,cp,cur,q1,q2,(hfr gc (by omega) (by omega) (by omega)).trans q3,q4⟩
   ·by_cases q:j=k
    ·subst q
     rw[Array.getElem?_setIfInBounds_self_of_lt (by rw[hI.sizeL];exact hkM)]
    ·rw[Array.getElem?_setIfInBounds_ne (Ne.symm q)]
     exact hI.atL j (by omega)
   ·by_cases q:j=k
    ·subst q
     rw[Array.getElem?_setIfInBounds_self_of_lt (by rw[hI.sizeF];exact hkM),if_pos rfl]
    ·rw[Array.getElem?_setIfInBounds_ne (Ne.symm q),if_neg q]
     exact hI.atF j (by omega)
   ·by_cases q:j=k
    ·subst q
     rw[if_pos rfl]
     exact⟨hZ.mono hz0',hr⟩
    ·rw[if_neg q]
     refine(hI.row j (by omega)).keep (fun b hb=>hfr b (hrow j (by omega) b hb) ?_ ?_)
     ·have:=hI.apart j (by omega) b hb;omega
     ·have:=hI.apart j (by omega) b hb;omega
   ·by_cases q:j=k
    ·rw[if_pos q] at hb
     have:=hnew b hb
     omega
    ·rw[if_neg q] at hb
     exact hI.apart j (by omega) b hb
   ·by_cases q:j=k
    ·by_cases q':j'=k
     ·omega
     ·rw[if_pos q] at hb
      rw[if_neg q'] at hb'
      have:=hnew b hb
      have:=hrow j' (by omega) b hb'
      omega
    ·by_cases q':j'=k
     ·rw[if_neg q] at hb
      rw[if_pos q'] at hb'
      have:=hnew b hb'
      have:=hrow j (by omega) b hb
      omega
     ·rw[if_neg q] at hb
      rw[if_neg q'] at hb'
      exact hI.once j j' b (by omega) (by omega) hb hb'
  have d2:=hd.trans (zcq.ctl (fun _ _=>stepG_inLoop))
  obtain⟨w2,aL,aF,xs2,x1,x2,x3,x4,x5,x11,x12,x13,x14,x15,x16,x17,x18,x19,x20,x21,hfin,hd2⟩:=ih (k+1) (by omega) w' _ _ _ _ _ _ _ _ _ _ _ _ _ _ _ _ _ _ _ hI' (t.desc d2)
  exact⟨w2,aL,aF,xs2,x1,x2,x3,x4,x5,x11,x12,x13,x14,x15,x16,x17,x18,x19,x20,x21,hfin,d2.trans hd2⟩
end
end
section
open Go Go.Conc Go.ConcN Go.RowKit Go.ConcR.Gen
theorem zqZ{w2:World}(h:Below w.heap.size w w1)(h2:Below w1.heap.size w1 w2):Below w.heap.size w w2:=⟨h2.os.trans h.os,h2.tape.trans h.tape,h2.output.trans h.output,Nat.le_trans h.size h2.size,fun k hk=>(h2.block k (nll hk h.size)).trans (h.block k hk)⟩
theorem zoS(v:Value):#[v]++Array.replicate (22 - #[v].size) undef=#[v,undef,undef,undef,undef,undef,undef,undef,undef,undef,undef,undef,undef,undef,undef,undef,undef,undef,undef,undef,undef,undef]:=by kernel_rfl
section
variable{FinP:Frame->World->Prop}{c:Frame}{cs:List Frame}
set_option maxRecDepth 100000 in
theorem zsz{wl:World}(hCl:Sp.zak wl ga gl)(hk:Sp.okG wd gl=true)(hn:gl.length<=25)(hl:0<gl.length)(hM:Sp.zb1 wd gl=(M:Int))(hM20:M<=20)(hC:∀ k,k<M->1<=C k/\C k<=maxLen/\(Sp.zaL wd gl (k:Int)).length<=C k)(tr:zbY SqP.prog FinP (Frame.enter SqP.prog 54 #[.agg #[.int .i64 wd,.slice ga gl.length cap]] .normal) (c::cs) wl) :
  ∃ (wl':World) (gc bl bf:Nat) (arrL arrF:Array Value) (xs:Nat->Value),ScI wl wl' wd gl M gc bl bf M C arrL arrF xs /\
   zcq SqP.prog (Frame.enter SqP.prog 54 #[.agg #[.int .i64 wd,.slice ga gl.length cap]] .normal) (c::cs) wl (c.finish (.tuple #[.agg #[.int .i64 wd,.slice (some ⟨gc,0,none⟩) gl.length gl.length,.slice (some ⟨bl,0,none⟩) M M,.slice (some ⟨bf,0,none⟩) M M],.bool true])) cs wl':=by
 rw[enter_at _ SqP.func54 SqP.body54,SqP.ntmps54,zoS] at tr ⊢
 have d0:zcq SqP.prog ((base 54).at ⟨#[.agg #[.int .i64 wd,.slice ga gl.length cap],undef,undef,undef,undef,undef,undef,undef,undef,undef,undef,undef,undef,undef,undef,undef,undef,undef,undef,undef,undef,undef],[]⟩ [.code zrr]) (c::cs) wl ((base 54).at ⟨#[.agg #[.int .i64 wd,.slice ga gl.length cap],undef,undef,undef,undef,undef,undef,undef,undef,undef,undef,undef,undef,undef,undef,undef,undef,undef,undef,undef,undef,undef],[]⟩ [.code (zjx .skip),.code zgW]) (c::cs) wl:=zcq.ctl (fun _ _=>stepG_seq)
 have t0:=tr.desc d0
 obtain⟨a1,w1,⟨u1,u2,u3,u4,u5,u6,u7,u8,u9,u10,u11,u12,u13,u14,u15,u16,u17,u18,u19,u20,u21,rfl,hb1⟩,d1⟩:=zh3 (Post:=fun a' w'=>∃ u1 u2 u3 u4 u5 u6 u7 u8 u9 u10 u11 u12 u13 u14 u15 u16 u17 u18 u19 u20 u21,a'=⟨#[.agg #[.int .i64 wd,.slice ga gl.length cap],u1,u2,u3,u4,u5,u6,u7,u8,u9,u10,u11,u12,u13,u14,u15,u16,u17,u18,u19,u20,u21],[]⟩/\Below wl.heap.size wl w') t0 wl.tape wl.drawn (Sp.zrs wd ga cap gl wl hCl (by omega) (fun w' u1 u2 u3 u4 u5 u6 u7 u8 u9 u10 u11 u12 u13 u14 u15 u16 u17 u18 u19 u20 u21 hb=>wp_skip ⟨rfl,u1,u2,u3,u4,u5,u6,u7,u8,u9,u10,u11,u12,u13,u14,u15,u16,u17,u18,u19,u20,u21,rfl,hb⟩))
 have t1:=t0.desc d1
 have d2:zcq SqP.prog ((base 54).at ⟨#[.agg #[.int .i64 wd,.slice ga gl.length cap],u1,u2,u3,u4,u5,u6,u7,u8,u9,u10,u11,u12,u13,u14,u15,u16,u17,u18,u19,u20,u21],[]⟩ [.code zgW]) (c::cs) w1 ((base 54).at ⟨#[.agg #[.int .i64 wd,.slice ga gl.length cap],u1,u2,u3,u4,u5,u6,u7,u8,u9,u10,u11,u12,u13,u14,u15,u16,u17,u18,u19,u20,u21],[]⟩ [.code scG,.code (.seq (.cond (.tmp 3) .skip scN) (.seq scA (.seq (.block 1 (.loop scL)) (.seq scZ .ret))))]) (c::cs) w1:=zcq.ctl (fun _ _=>stepG_seq)
 have t2:=t1.desc d2
 have hC1:=hCl.below hb1
 obtain⟨a2,w2,⟨rfl,hb2⟩,d3⟩:=zh3 (Post:=fun a' w'=>a'=⟨#[.agg #[.int .i64 wd,.slice ga gl.length cap],u1,u2,.bool true,u4,u5,u6,u7,u8,u9,u10,u11,u12,u13,u14,u15,u16,u17,u18,u19,u20,u21],[]⟩/\Below w1.heap.size w1 w') t2 w1.tape w1.drawn (Sp.zrb wd ga cap gl w1 hC1 (by omega) hk u1 u2 u3 u4 u5 u6 u7 u8 u9 u10 u11 u12 u13 u14 u15 u16 u17 u18 u19 u20 u21 (fun w' hb=>⟨rfl,rfl,hb⟩))
 have t3:=t2.desc d3
 have hB2:=zqZ hb1 hb2
 have hC2:=hCl.below hB2
 have d4:zcq SqP.prog ((base 54).at ⟨#[.agg #[.int .i64 wd,.slice ga gl.length cap],u1,u2,.bool true,u4,u5,u6,u7,u8,u9,u10,u11,u12,u13,u14,u15,u16,u17,u18,u19,u20,u21],[]⟩ [.code (.seq (.cond (.tmp 3) .skip scN) (.seq scA (.seq (.block 1 (.loop scL)) (.seq scZ .ret))))]) (c::cs) w2 ((base 54).at ⟨#[.agg #[.int .i64 wd,.slice ga gl.length cap],u1,u2,.bool true,u4,u5,u6,u7,u8,u9,u10,u11,u12,u13,u14,u15,u16,u17,u18,u19,u20,u21],[]⟩ [.code scA,.code (.seq (.block 1 (.loop scL)) (.seq scZ .ret))]) (c::cs) w2:=by
  refine(zcq.ctl (fun _ _=>stepG_seq)).trans ((zcq.ctl (fr1:=(base 54).at ⟨#[.agg #[.int .i64 wd,.slice ga gl.length cap],u1,u2,.bool true,u4,u5,u6,u7,u8,u9,u10,u11,u12,u13,u14,u15,u16,u17,u18,u19,u20,u21],[]⟩ [.code .skip,.code (.seq scA (.seq (.block 1 (.loop scL)) (.seq scZ .ret)))]) (fun _ _=>stepG_cond (t:=true) rfl)).trans ((zcq.ctl (fun _ _=>stepG_skip)).trans (zcq.ctl (fun _ _=>stepG_seq))))
 have t4:=t3.desc d4
 obtain⟨a3,w3,⟨gc,bl,bf,rfl,hO,hL,hF,h1,h2,h3,hb3⟩,d5⟩:=zh3 (Post:=fun a' w'=>∃ gc bl bf,a'=⟨#[.agg #[.int .i64 wd,.slice ga gl.length cap],u1,u2,.bool true,u4,u5,.agg #[.int .i64 wd,.slice (some ⟨gc,0,none⟩) gl.length gl.length],.int .i64 (M:Int),.slice (some ⟨bl,0,none⟩) M M,.slice (some ⟨bf,0,none⟩) M M,.int .i64 (0),u11,u12,u13,u14,u15,u16,u17,u18,u19,u20,u21],[]⟩/\Sp.Own w' w2.heap.size (.slice (some ⟨gc,0,none⟩) gl.length gl.length) gl/\w'.heap[bl]?=some (.cells (madeCells #[.int .i64 0] M) 3)/\w'.heap[bf]?=some (.cells (madeCells #[.slice none 0 0] M) 25)/\w2.heap.size<=gc/\gc<bl/\bl<bf/\Below w2.heap.size w2 w') t4 w2.tape w2.drawn (Sp.zra wd ga cap gl w2 hC2 (by omega) hl M hM hM20 u1 u2 (.bool true) u4 u5 u6 u7 u8 u9 u10 u11 u12 u13 u14 u15 u16 u17 u18 u19 u20 u21 (fun gc bl bf w' q1 q2 q3 q4 q5 q6 q7=>⟨rfl,gc,bl,bf,rfl,q1,q2,q3,q4,q5,q6,q7⟩))
 have t5:=t4.desc d5
 have hz2:=hB2.size
 have hB3:=zqZ hB2 hb3
 have d6:zcq SqP.prog ((base 54).at ⟨#[.agg #[.int .i64 wd,.slice ga gl.length cap],u1,u2,.bool true,u4,u5,.agg #[.int .i64 wd,.slice (some ⟨gc,0,none⟩) gl.length gl.length],.int .i64 (M:Int),.slice (some ⟨bl,0,none⟩) M M,.slice (some ⟨bf,0,none⟩) M M,.int .i64 (0),u11,u12,u13,u14,u15,u16,u17,u18,u19,u20,u21],[]⟩ [.code (.seq (.block 1 (.loop scL)) (.seq scZ .ret))]) (c::cs) w3 ((base 54).at ⟨#[.agg #[.int .i64 wd,.slice ga gl.length cap],u1,u2,.bool true,u4,u5,.agg #[.int .i64 wd,.slice (some ⟨gc,0,none⟩) gl.length gl.length],.int .i64 (M:Int),.slice (some ⟨bl,0,none⟩) M M,.slice (some ⟨bf,0,none⟩) M M,.int .i64 (((0:Nat):Int)),u11,u12,u13,u14,u15,u16,u17,u18,u19,u20,u21],[]⟩ (.code scL::.inLoop scL::.inBlock 1::[.code (.seq scZ .ret)])) (c::cs) w3 :=
  (zcq.ctl (fun _ _=>stepG_seq)).trans ((zcq.ctl (fun _ _=>stepG_block)).trans (zcq.ctl (fun _ _=>stepG_loop)))
 have t6:=t5.desc d6
 have hI:ScI wl w3 wd gl M gc bl bf 0 C (madeCells #[.int .i64 0] M) (madeCells #[.slice none 0 0] M) (fun _=>.slice none 0 0):=⟨⟨hB3.os,rfl,hB3.output,hB3.size,hB3.block⟩,hO.mono (by omega),hL,hF,by simp[madeCells],by simp[madeCells],fun j hj=>by omega,fun j hj=>by omega,⟨by omega,h2,h3⟩,fun j hj=>by omega,fun j hj=>by omega,fun j j' b hj=>by omega⟩
 obtain⟨w4,aL,aF,xs,x1,x2,x3,x4,x5,x11,x12,x13,x14,x15,x16,x17,x18,x19,x20,x21,hI4,d7⟩:=zrO hCl hn hl hM20 hC M 0 (by omega) w3 _ _ _ _ _ _ _ _ _ _ _ _ _ _ _ _ _ _ _ hI t6
 have t7:=t6.desc d7
 obtain⟨v,w5,⟨rfl,hb5⟩,d8⟩:=zqF (Post:=fun v w'=>v=.tuple #[.agg #[.int .i64 wd,.slice (some ⟨gc,0,none⟩) gl.length gl.length,.slice (some ⟨bl,0,none⟩) M M,.slice (some ⟨bf,0,none⟩) M M],.bool true]/\Below w4.heap.size w4 w') t7 (Sp.zsy wd ga cap gl w4 M gc bl bf x1 x2 x3 x4 x5 x11 x12 x13 x14 x15 x16 x17 x18 x19 x20 x21 (fun a' w' q1 q2 q3=>⟨rfl,_,⟨rfl,q2⟩,fun todo=>⟨rfl,q1,rfl,_,SqP.func54,q3⟩⟩))
 refine⟨w5,gc,bl,bf,aL,aF,xs,?_,((((((d0.trans d1).trans d2).trans d3).trans d4).trans d5).trans d6).trans (d7.trans d8)⟩
 have hz5:=hb5.size
 have hkeep:∀ b o,w4.heap[b]?=some o->w5.heap[b]?=some o:=fun b o q=>(hb5.block b (gei q).1).trans q
 have hz4:wl.heap.size<=w4.heap.size:=hI4.below.size
 refine⟨⟨hb5.os.trans hI4.below.os,rfl,hb5.output.trans hI4.below.output,Nat.le_trans hz4 hz5,fun b hb=>(hb5.block b (by omega)).trans (hI4.below.block b hb)⟩,hI4.grid.below hb5,hkeep _ _ hI4.lights,hkeep _ _ hI4.feet,hI4.sizeL,hI4.sizeF,hI4.atL,hI4.atF,hI4.lt,fun j hj=>(hI4.row j hj).keep (fun b hb=>?_),hI4.apart,hI4.once⟩
 rcases (hI4.row j hj).1 with ⟨q,_⟩|⟨g,cp,q,_,_,_,_,q6⟩
 ·rw[q] at hb;simp[Value.ownBlock] at hb
 ·rw[q] at hb
  simp[Value.ownBlock] at hb
  subst hb
  exact hb5.block g (gei q6).1
