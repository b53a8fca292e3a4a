/- Part. -/
import Derived.Control
import Derived.Test.YthfhlgdeghnggaaGreatEAs
set_option maxHeartbeats 40000000
set_option maxRecDepth 100000
set_option linter.unusedVariables false
namespace Go.Proofs.YthfhlgdeghnggaaGreat
variable{a:Act}{Post:Act->Wq}{objC:Array Value}{Ex:Event->Prop}{b fr fr1:Frame}{X:FuncId->Prop}{wd:Int}{bs l l0:List (Nat × Obj)}{xs:List Int}{rest:List Nat}{gl:Lp}{B M bg cap n:Nat}{C:Nat->Nat}{Stop:Nat->Np->Goroutine->Wq}{Snd:Nat->Np->Value->Wq}{RowP:Nat->Value->List (Nat × Obj)->Prop}{Kc:Np}{objL:Obj}{ga:Od}{x:Value}{w w1 wl:World}
open _root_.Go.Proofs.Tryz
section
open Go Go.Conc
section
variable{L:Program}{FinP:Frame->Wq}
theorem zcB.of_tp{cs cs1:List Frame}{τ:Nat->Question->Nat}{d:Nat}(h:zcB L fr cs (w.tp τ d) fr1 cs1 w1)(h0:fr≠fr1\/cs≠cs1):zcB L fr cs w fr1 cs1 w1:=by
 cases h with
 | refl=>rcases h0 with q|q <;> exact absurd rfl q
 | step τ' d' es e k=>exact .step τ' d' es e k
theorem zcB.ctl{cs:List Frame}(h:∀ cs w,stepG L true (G fr cs) w=.go (G fr1 cs) w #[]):zcB L fr cs w fr1 cs w :=
 .step w.tape w.drawn #[] (h (cs++[zaR L]) w) .refl
theorem ziu{c:Code}{k:List Item}{cs:List Frame}(t:zb5 L FinP (b.at a (.code c::k)) cs w)(τ:Nat->Question->Nat)(d:Nat)(h:c.wp L (fun e a' w'=>e=.normal/\Post a' w') a (w.tp τ d)) :
  ∃ a' w',Post a' w'/\zcB L (b.at a (.code c::k)) cs w (b.at a' k) cs w':=by
 obtain⟨e,a',w',⟨rfl,hp⟩,hs⟩:=h b k (cs++[zaR L])
 obtain⟨n,hn⟩:Steps L (lone (b.at a (.code c::k)) (cs++[zaR L]) (w.tp τ d)) (lone (b.at a' k) (cs++[zaR L]) w'):=hs
 refine⟨a',w',hp,(zbq n (t.tp τ d) hn).of_tp (.inl fun q=>?_)⟩
 have:(b.at a (.code c::k)).todo=(b.at a' k).todo:=by rw[q]
 have h2:(Item.code c::k)=k:=this
 exact absurd (congrArg List.length h2) qm
theorem zrO{c:Code}{k k':List Item}{id:Nat}{cs:List Frame}(t:zb5 L FinP (b.at a (.code c::k)) cs w)(τ:Nat->Question->Nat)(d:Nat)(h:c.wp L (fun e a' w'=>e=.exit id/\Post a' w') a (w.tp τ d))(hk:exitTo id k=some k')(hl:k'.length<=k.length) :
  ∃ a' w',Post a' w'/\zcB L (b.at a (.code c::k)) cs w (b.at a' k') cs w':=by
 obtain⟨e,a',w',⟨rfl,hp⟩,hs⟩:=h b k (cs++[zaR L])
 obtain⟨n,hn⟩:Steps L (lone (b.at a (.code c::k)) (cs++[zaR L]) (w.tp τ d)) (lone (b.at a' k') (cs++[zaR L]) w'):=hs k' hk
 refine⟨a',w',hp,(zbq n (t.tp τ d) hn).of_tp (.inl fun q=>?_)⟩
 have:(b.at a (.code c::k)).todo=(b.at a' k').todo:=by rw[q]
 have h2:(Item.code c::k)=k':=this
 have h3:=congrArg List.length h2
 simp at h3
 omega
theorem zrN{c:Code}{k:List Item}{c0:Frame}{cs:List Frame}{Post:Value->Wq}(t:zb5 L FinP (b.at a (.code c::k)) (c0::cs) w)(h:c.wp L (fun e a' w'=>e=.ret/\∃ v,Post v w'/\∀ todo,({ b.at a' todo with mode:=.returning }:Frame).leaving L w' (.returned v)) a w) :
  ∃ v w',Post v w'/\zcB L (b.at a (.code c::k)) (c0::cs) w (c0.finish v) cs w':=by
 obtain⟨e,a',w',⟨rfl,v,hp,hl⟩,todo,hs⟩:=h b k (c0::cs++[zaR L])
 obtain⟨n,hn⟩:Steps L (lone (b.at a (.code c::k)) (c0::cs++[zaR L]) w) (lone { b.at a' todo with mode:=.returning } (c0::cs++[zaR L]) w'):=hs
 have d1:=zbq (cs':=c0::cs) n t hn
 have t1:=t.desc d1
 have h0:step L (lone { b.at a' todo with mode:=.returning } (c0::(cs++[zaR L])) w')=.next (lone (c0.finish v) (cs++[zaR L]) w'):=step_leave_returned (hl todo)
 refine⟨v,w',hp,d1.trans (zbq 1 t1 ?_)⟩
 simp only[runN,List.cons_append,h0]
end
end
section
open Go Go.Conc Go.ConcN Go.RowKit
def zlg(w:World)(B:Nat)(x:Value)(xs:List Int)(C:Nat):Prop:=zd4 w B 3 x xs/\(x=.slice none 0 0\/zbF x=C)
structure ScI(w0 w:World)(wd:Int)(gl:Lp)(M gc bl bf k:Nat)(C:Nat->Nat)(arrL arrF:Array Value)(xs:Nat->Value):Prop where
 below:xE w0 (w.tp w0.tape w0.drawn)
 grid:Sp.Own w w0.heap.size (.slice (xA gc) gl.length gl.length) gl
 lights:w.heap[bl]?=some (.cells arrL 3)
 feet:w.heap[bf]?=some (.cells arrF 25)
 sizeL:arrL.size=M
 sizeF:arrF.size=M
 atL:∀ j,j<k->arrL[j]?=some (J (Sp.zaU wd gl (j:Int)))
 atF:∀ j,j<k->arrF[j]?=some (xs j)
 lt:w0.heap.size<=gc/\gc<bl/\bl<bf
 row:∀ j,j<k->zlg w w0.heap.size (xs j) (Sp.zaA wd gl (j:Int)) (C j)
 apart:∀ j,j<k->∀ b,(xs j).ownBlock=some b->bf<b
 once:∀ j j' b,j<k->j'<k->(xs j).ownBlock=some b->(xs j').ownBlock=some b->j=j'
theorem zlg.keep{w':World}{C:Nat}(h:zlg w B x xs C)(hk:∀ b,x.ownBlock=some b->w'.heap[b]?=w.heap[b]?):zlg w' B x xs C:=by
 refine⟨?_,h.2⟩
 rcases h.1 with q|⟨g,cap,rfl,q2,q3,q4,q5,q6⟩
 ·exact .inl q
 ·exact .inr ⟨g,cap,rfl,q2,q3,q4,q5,(hk g rfl).trans q6⟩
section
variable{FinP:Frame->Wq}{c:Frame}{cs:List Frame}
theorem zs6{w0:World}(h7:Sp.zaf w0 ga gl)(hn:gl.length<=25)(hl:0<gl.length){gc bl bf:Nat}(hM:M<=20)(hC:∀ k,k<M->1<=C k/\C k<=maxLen/\(Sp.zaA wd gl (k:Int)).length<=C k){kk:List Item} :
  ∀(r k:Nat),k+r=M->∀(w:World) (arrL arrF:Array Value) (xs:Nat->Value) (u1 u2 u3 u4 u5 u11 u12 u13 u14 u15 u16 u17 u18 u19 u20 u21:Value),ScI w0 w wd gl M gc bl bf k C arrL arrF xs ->
   zb5 SqP.prog FinP ((base 54).at ⟨#[.agg (xG wd ga gl.length cap),u1,u2,u3,u4,u5,.agg (xG wd (xA gc) gl.length gl.length),J (M:Int),.slice (xA bl) M M,.slice (xA bf) M M,J ((k:Int)),u11,u12,u13,u14,u15,u16,u17,u18,u19,u20,u21],[]⟩ (.code scL::.inLoop scL::.inBlock 1::kk)) (c::cs) w ->
   ∃ (w':World) (arrL' arrF':Array Value) (xs':Nat->Value) (U1 U2 U3 U4 U5 U11 U12 U13 U14 U15 U16 U17 U18 U19 U20 U21:Value),ScI w0 w' wd gl M gc bl bf M C arrL' arrF' xs' /\
    zcB SqP.prog ((base 54).at ⟨#[.agg (xG wd ga gl.length cap),u1,u2,u3,u4,u5,.agg (xG wd (xA gc) gl.length gl.length),J (M:Int),.slice (xA bl) M M,.slice (xA bf) M M,J ((k:Int)),u11,u12,u13,u14,u15,u16,u17,u18,u19,u20,u21],[]⟩ (.code scL::.inLoop scL::.inBlock 1::kk)) (c::cs) w ((base 54).at ⟨#[.agg (xG wd ga gl.length cap),U1,U2,U3,U4,U5,.agg (xG wd (xA gc) gl.length gl.length),J (M:Int),.slice (xA bl) M M,.slice (xA bf) M M,J ((M:Int)),U11,U12,U13,U14,U15,U16,U17,U18,U19,U20,U21],[]⟩ kk) (c::cs) w':=by
 intro r
 induction r with
 | zero =>
  intro k hk w arrL arrF xs u1 u2 u3 u4 u5 u11 u12 u13 u14 u15 u16 u17 u18 u19 u20 u21 hI t
  obtain rfl:k=M:=qg
  obtain⟨a',w',⟨⟨u11',rfl⟩,rfl⟩,hd⟩:=zrO (id:=1) (k':=kk) (Post:=fun a' w'=>(∃ u11,a'=⟨#[.agg (xG wd ga gl.length cap),u1,u2,u3,u4,u5,.agg (xG wd (xA gc) gl.length gl.length),J (k:Int),.slice (xA bl) k k,.slice (xA bf) k k,J ((k:Int)),u11,u12,u13,u14,u15,u16,u17,u18,u19,u20,u21],[]⟩)/\w'=w) t w.tape w.drawn (Sp.zs5 wd ga cap gl _ k gc bl bf u1 u2 u3 u4 u5 u11 u12 u13 u14 u15 u16 u17 u18 u19 u20 u21 (fun u11=>⟨rfl,⟨u11,rfl⟩,rfl⟩)) rfl qn
  exact⟨_,arrL,arrF,xs,_,_,_,_,_,_,_,_,_,_,_,_,_,_,_,_,hI,hd⟩
 | succ r ih =>
  intro k hk w arrL arrF xs u1 u2 u3 u4 u5 u11 u12 u13 u14 u15 u16 u17 u18 u19 u20 u21 hI t
  have h5:k<M:=qg
  obtain⟨h1,h2,h3⟩:=hC k h5
  have hf:=hI.lt
  have hu:=(gei hI.lights).1
  have hw:=(gei hI.feet).1
  have h8:=hI.below.size
  have hg:∀ b off,ga=some (O b off)->b≠bl/\b≠bf:=by
   intro b off e
   rcases h7 with q|⟨b',off',e',hbl',_⟩
   ·rw[q] at hl;simp at hl
   ·rw[e] at e'
    simp only[Option.some.injEq,Addr.mk.injEq] at e'
    have hz0':w0.heap.size<=w.heap.size:=h8
    omega
  obtain⟨τ,hτ⟩:∃ τ:Nat->Question->Nat,τ=fun _ _=>C k - 1:=⟨_,rfl⟩
  have hT:Sp.zj0 (w.tp τ 0) (C k):=⟨fun i q=>by rw[show (w.tp τ 0).tape=τ from rfl,hτ],h1,h2⟩
  have h9:Sp.zaf (w.tp w0.tape w0.drawn) ga gl:=h7.below hI.below
  have hp:Sp.zaf (w.tp τ 0) ga gl:=h9
  obtain⟨a',w',⟨v,u11',u12',u13',u14',u15',rfl,hZ,hr,hL,hF,h6,hq,ho⟩,hd⟩:=ziu (Post:=fun a' w'=>∃ (v u11 u12 u13 u14 u15:Value),a'=⟨#[.agg (xG wd ga gl.length cap),u1,u2,u3,u4,u5,.agg (xG wd (xA gc) gl.length gl.length),J (M:Int),.slice (xA bl) M M,.slice (xA bf) M M,J ((k:Int)+1),u11,u12,u13,u14,u15,u16,u17,u18,u19,u20,u21],[]⟩/\zd4 w' w.heap.size 3 v (Sp.zaA wd gl (k:Int))/\(v=.slice none 0 0\/zbF v=C k)/\w'.heap[bl]?=some (.cells (arrL.setIfInBounds k (J (Sp.zaU wd gl (k:Int)))) 3)/\w'.heap[bf]?=some (.cells (arrF.setIfInBounds k v) 25)/\(∀ b,b<w.heap.size->b≠bl->b≠bf->w'.heap[b]?=w.heap[b]?)/\w.heap.size<=w'.heap.size/\w'.os=w.os/\w'.output=w.output) t τ 0
   (Sp.ztS wd ga cap gl (w.tp τ 0) hp qg M k gc bl bf h5 hM arrL arrF hI.lights hI.feet hI.sizeL hI.sizeF qg hg (C k) hT h3 u1 u2 u3 u4 u5 u11 u12 u13 u14 u15 u16 u17 u18 u19 u20 u21 (fun v u11 u12 u13 u14 u15 w' q1 q2 q3 q4 q5 q6 q7=>⟨rfl,v,u11,u12,u13,u14,u15,rfl,q1,q2,q3,q4,q5,q6,q7.1,q7.2.2⟩))
  have hz0':w0.heap.size<=w.heap.size:=h8
  have h0:∀ j,j<k->∀ b,(xs j).ownBlock=some b->b<w.heap.size:=by
   intro j hj b hb
   rcases (hI.row j hj).1 with ⟨q,_⟩|⟨g,cp,q,_,_,_,_,q6⟩
   ·rw[q] at hb;simp[Value.ownBlock] at hb
   ·rw[q] at hb
    simp[Value.ownBlock] at hb
    subst hb
    exact(gei q6).1
  have h4:∀ b,v.ownBlock=some b->w.heap.size<=b:=fun b hb=>(hZ.ownBlock b hb).1
  have hy:=hI.grid.lt
  have hI':ScI w0 w' wd gl M gc bl bf (k+1) C (arrL.setIfInBounds k (J (Sp.zaU wd gl (k:Int)))) (arrF.setIfInBounds k v) (fun j=>if j=k then v else xs j):=by
   refine⟨⟨ho.1.trans hI.below.os,rfl,ho.2.trans hI.below.output,Nat.le_trans hz0' hq,fun b hb=>?_⟩,?_,hL,hF,by simpa using hI.sizeL,by simpa using hI.sizeF,fun j hj=>?_,fun j hj=>?_,hf,fun j hj=>?_,fun j hj b hb=>?_,fun j j' b hj hj' hb hb'=>?_⟩
   ·exact(h6 b qg qg qg).trans (hI.below.block b hb)
   ·obtain⟨g1,g2⟩:=hI.grid
    refine⟨g1,?_⟩
    rcases g2 with g2|⟨g,cp,cur,q1,q2,q3,q4⟩
    ·exact .inl g2
    ·have e:gc=g:=by simp only[Value.slice.injEq,Option.some.injEq,Addr.mk.injEq] at q1;exact q1.1.1
     subst e
     exact .inr ⟨gc,cp,cur,q1,q2,(h6 gc qg qg qg).trans q3,q4⟩
   ·by_cases q:j=k
    ·subst q
     rw[Array.getElem?_setIfInBounds_self_of_lt (by rw[hI.sizeL];exact h5)]
    ·rw[Array.getElem?_setIfInBounds_ne (Ne.symm q)]
     exact hI.atL j qg
   ·by_cases q:j=k
    ·subst q
     rw[Array.getElem?_setIfInBounds_self_of_lt (by rw[hI.sizeF];exact h5),if_pos rfl]
    ·rw[Array.getElem?_setIfInBounds_ne (Ne.symm q),if_neg q]
     exact hI.atF j qg
   ·by_cases q:j=k
    ·subst q
     rw[if_pos rfl]
     exact⟨hZ.mono hz0',hr⟩
    ·rw[if_neg q]
     refine(hI.row j qg).keep (fun b hb=>h6 b (h0 j qg b hb) ?_ ?_)
     ·have:=hI.apart j qg b hb;omega
     ·have:=hI.apart j qg b hb;omega
   ·by_cases q:j=k
    ·rw[if_pos q] at hb
     have:=h4 b hb
     omega
    ·rw[if_neg q] at hb
     exact hI.apart j qg b hb
   ·by_cases q:j=k
    ·by_cases q':j'=k
     ·omega
     ·rw[if_pos q] at hb
      rw[if_neg q'] at hb'
      have:=h4 b hb
      have:=h0 j' qg b hb'
      omega
    ·by_cases q':j'=k
     ·rw[if_neg q] at hb
      rw[if_pos q'] at hb'
      have:=h4 b hb'
      have:=h0 j qg b hb
      omega
     ·rw[if_neg q] at hb
      rw[if_neg q'] at hb'
      exact hI.once j j' b qg qg hb hb'
  have d2:=hd.trans (zcB.ctl (fun _ _=>stepG_inLoop))
  obtain⟨w2,aL,aF,xs2,x1,x2,x3,x4,x5,x11,x12,x13,x14,x15,x16,x17,x18,x19,x20,x21,he,hs⟩:=ih (k+1) qg w' _ _ _ _ _ _ _ _ _ _ _ _ _ _ _ _ _ _ _ hI' (t.desc d2)
  exact⟨w2,aL,aF,xs2,x1,x2,x3,x4,x5,x11,x12,x13,x14,x15,x16,x17,x18,x19,x20,x21,he,d2.trans hs⟩
end
end
section
open Go Go.Conc Go.ConcN Go.RowKit Go.ConcR.Gen
theorem zr9{w2:World}(h:xE w w1)(h2:xE w1 w2):xE w w2:=⟨h2.os.trans h.os,h2.tape.trans h.tape,h2.output.trans h.output,Nat.le_trans h.size h2.size,fun k hk=>(h2.block k (nll hk h.size)).trans (h.block k hk)⟩
theorem zpY(v:Value):#[v]++Array.replicate (22 - #[v].size) undef=#[v,undef,undef,undef,undef,undef,undef,undef,undef,undef,undef,undef,undef,undef,undef,undef,undef,undef,undef,undef,undef,undef]:=qh
section
variable{FinP:Frame->Wq}{c:Frame}{cs:List Frame}
theorem ztU(h6:Sp.zaf wl ga gl)(hk:Sp.okG wd gl=true)(hn:gl.length<=25)(hl:0<gl.length)(hM:Sp.zbV wd gl=(M:Int))(h8:M<=20)(hC:∀ k,k<M->1<=C k/\C k<=maxLen/\(Sp.zaA wd gl (k:Int)).length<=C k)(tr:zb5 SqP.prog FinP (Frame.enter SqP.prog 54 #[.agg (xG wd ga gl.length cap)] .normal) (c::cs) wl) :
  ∃ (wl':World) (gc bl bf:Nat) (arrL arrF:Array Value) (xs:Nat->Value),ScI wl wl' wd gl M gc bl bf M C arrL arrF xs /\
   zcB SqP.prog (Frame.enter SqP.prog 54 #[.agg (xG wd ga gl.length cap)] .normal) (c::cs) wl (c.finish (.tuple #[.agg (xH wd (xA gc) gl.length gl.length (xA bl) M M (xA bf) M M),.bool true])) cs wl':=by
 rw[enter_at _ SqP.func54 SqP.body54,SqP.ntmps54,zpY] at tr ⊢
 have d0:zcB SqP.prog ((base 54).at ⟨#[.agg (xG wd ga gl.length cap),undef,undef,undef,undef,undef,undef,undef,undef,undef,undef,undef,undef,undef,undef,undef,undef,undef,undef,undef,undef,undef],[]⟩ [.code zsD]) (c::cs) wl ((base 54).at ⟨#[.agg (xG wd ga gl.length cap),undef,undef,undef,undef,undef,undef,undef,undef,undef,undef,undef,undef,undef,undef,undef,undef,undef,undef,undef,undef,undef],[]⟩ [.code (zj7 .skip),.code zhi]) (c::cs) wl:=zcB.ctl (fun _ _=>stepG_seq)
 have t0:=tr.desc d0
 obtain⟨a1,w1,⟨u1,u2,u3,u4,u5,u6,u7,u8,u9,u10,u11,u12,u13,u14,u15,u16,u17,u18,u19,u20,u21,rfl,he⟩,d1⟩:=ziu (Post:=fun a' w'=>∃ u1 u2 u3 u4 u5 u6 u7 u8 u9 u10 u11 u12 u13 u14 u15 u16 u17 u18 u19 u20 u21,a'=⟨#[.agg (xG wd ga gl.length cap),u1,u2,u3,u4,u5,u6,u7,u8,u9,u10,u11,u12,u13,u14,u15,u16,u17,u18,u19,u20,u21],[]⟩/\xE wl w') t0 wl.tape wl.drawn (Sp.zsE wd ga cap gl wl h6 qg (fun w' u1 u2 u3 u4 u5 u6 u7 u8 u9 u10 u11 u12 u13 u14 u15 u16 u17 u18 u19 u20 u21 hb=>wp_skip ⟨rfl,u1,u2,u3,u4,u5,u6,u7,u8,u9,u10,u11,u12,u13,u14,u15,u16,u17,u18,u19,u20,u21,rfl,hb⟩))
 have t1:=t0.desc d1
 have d2:zcB SqP.prog ((base 54).at ⟨#[.agg (xG wd ga gl.length cap),u1,u2,u3,u4,u5,u6,u7,u8,u9,u10,u11,u12,u13,u14,u15,u16,u17,u18,u19,u20,u21],[]⟩ [.code zhi]) (c::cs) w1 ((base 54).at ⟨#[.agg (xG wd ga gl.length cap),u1,u2,u3,u4,u5,u6,u7,u8,u9,u10,u11,u12,u13,u14,u15,u16,u17,u18,u19,u20,u21],[]⟩ [.code scG,.code (.seq (.cond (.tmp 3) .skip scN) (.seq scA (.seq (.block 1 (.loop scL)) (.seq scZ .ret))))]) (c::cs) w1:=zcB.ctl (fun _ _=>stepG_seq)
 have t2:=t1.desc d2
 have hf:=h6.below he
 obtain⟨a2,w2,⟨rfl,hg⟩,d3⟩:=ziu (Post:=fun a' w'=>a'=⟨#[.agg (xG wd ga gl.length cap),u1,u2,.bool true,u4,u5,u6,u7,u8,u9,u10,u11,u12,u13,u14,u15,u16,u17,u18,u19,u20,u21],[]⟩/\xE w1 w') t2 w1.tape w1.drawn (Sp.zsj wd ga cap gl w1 hf qg hk u1 u2 u3 u4 u5 u6 u7 u8 u9 u10 u11 u12 u13 u14 u15 u16 u17 u18 u19 u20 u21 (fun w' hb=>⟨rfl,rfl,hb⟩))
 have t3:=t2.desc d3
 have h9:=zr9 he hg
 have hp:=h6.below h9
 have d4:zcB SqP.prog ((base 54).at ⟨#[.agg (xG wd ga gl.length cap),u1,u2,.bool true,u4,u5,u6,u7,u8,u9,u10,u11,u12,u13,u14,u15,u16,u17,u18,u19,u20,u21],[]⟩ [.code (.seq (.cond (.tmp 3) .skip scN) (.seq scA (.seq (.block 1 (.loop scL)) (.seq scZ .ret))))]) (c::cs) w2 ((base 54).at ⟨#[.agg (xG wd ga gl.length cap),u1,u2,.bool true,u4,u5,u6,u7,u8,u9,u10,u11,u12,u13,u14,u15,u16,u17,u18,u19,u20,u21],[]⟩ [.code scA,.code (.seq (.block 1 (.loop scL)) (.seq scZ .ret))]) (c::cs) w2:=by
  refine(zcB.ctl (fun _ _=>stepG_seq)).trans ((zcB.ctl (fr1:=(base 54).at ⟨#[.agg (xG wd ga gl.length cap),u1,u2,.bool true,u4,u5,u6,u7,u8,u9,u10,u11,u12,u13,u14,u15,u16,u17,u18,u19,u20,u21],[]⟩ [.code .skip,.code (.seq scA (.seq (.block 1 (.loop scL)) (.seq scZ .ret)))]) (fun _ _=>stepG_cond (t:=true) rfl)).trans ((zcB.ctl (fun _ _=>stepG_skip)).trans (zcB.ctl (fun _ _=>stepG_seq))))
 have t4:=t3.desc d4
 obtain⟨a3,w3,⟨gc,bl,bf,rfl,hO,hL,hF,h1,h2,h3,hq⟩,d5⟩:=ziu (Post:=fun a' w'=>∃ gc bl bf,a'=⟨#[.agg (xG wd ga gl.length cap),u1,u2,.bool true,u4,u5,.agg (xG wd (xA gc) gl.length gl.length),J (M:Int),.slice (xA bl) M M,.slice (xA bf) M M,J (0),u11,u12,u13,u14,u15,u16,u17,u18,u19,u20,u21],[]⟩/\Sp.Own w' w2.heap.size (.slice (xA gc) gl.length gl.length) gl/\w'.heap[bl]?=some (.cells (madeCells #[J 0] M) 3)/\w'.heap[bf]?=some (.cells (madeCells #[.slice none 0 0] M) 25)/\w2.heap.size<=gc/\gc<bl/\bl<bf/\xE w2 w') t4 w2.tape w2.drawn (Sp.zsi wd ga cap gl w2 hp qg hl M hM h8 u1 u2 (.bool true) u4 u5 u6 u7 u8 u9 u10 u11 u12 u13 u14 u15 u16 u17 u18 u19 u20 u21 (fun gc bl bf w' q1 q2 q3 q4 q5 q6 q7=>⟨rfl,gc,bl,bf,rfl,q1,q2,q3,q4,q5,q6,q7⟩))
 have t5:=t4.desc d5
 have hw:=h9.size
 have h7:=zr9 h9 hq
 have d6:zcB SqP.prog ((base 54).at ⟨#[.agg (xG wd ga gl.length cap),u1,u2,.bool true,u4,u5,.agg (xG wd (xA gc) gl.length gl.length),J (M:Int),.slice (xA bl) M M,.slice (xA bf) M M,J (0),u11,u12,u13,u14,u15,u16,u17,u18,u19,u20,u21],[]⟩ [.code (.seq (.block 1 (.loop scL)) (.seq scZ .ret))]) (c::cs) w3 ((base 54).at ⟨#[.agg (xG wd ga gl.length cap),u1,u2,.bool true,u4,u5,.agg (xG wd (xA gc) gl.length gl.length),J (M:Int),.slice (xA bl) M M,.slice (xA bf) M M,J (((0:Nat):Int)),u11,u12,u13,u14,u15,u16,u17,u18,u19,u20,u21],[]⟩ (.code scL::.inLoop scL::.inBlock 1::[.code (.seq scZ .ret)])) (c::cs) w3 :=
  (zcB.ctl (fun _ _=>stepG_seq)).trans ((zcB.ctl (fun _ _=>stepG_block)).trans (zcB.ctl (fun _ _=>stepG_loop)))
 have t6:=t5.desc d6
 have hI:ScI wl w3 wd gl M gc bl bf 0 C (madeCells #[J 0] M) (madeCells #[.slice none 0 0] M) (fun _=>.slice none 0 0):=⟨⟨h7.os,rfl,h7.output,h7.size,h7.block⟩,hO.mono qg,hL,hF,by simp[madeCells],by simp[madeCells],fun j hj=>qg,fun j hj=>qg,⟨qg,h2,h3⟩,fun j hj=>qg,fun j hj=>qg,fun j j' b hj=>qg⟩
 obtain⟨w4,aL,aF,xs,x1,x2,x3,x4,x5,x11,x12,x13,x14,x15,x16,x17,x18,x19,x20,x21,h0,d7⟩:=zs6 h6 hn hl h8 hC M 0 qg w3 _ _ _ _ _ _ _ _ _ _ _ _ _ _ _ _ _ _ _ hI t6
 have t7:=t6.desc d7
 obtain⟨v,w5,⟨rfl,h4⟩,d8⟩:=zrN (Post:=fun v w'=>v=.tuple #[.agg (xH wd (xA gc) gl.length gl.length (xA bl) M M (xA bf) M M),.bool true]/\xE w4 w') t7 (Sp.ztT wd ga cap gl w4 M gc bl bf x1 x2 x3 x4 x5 x11 x12 x13 x14 x15 x16 x17 x18 x19 x20 x21 (fun a' w' q1 q2 q3=>⟨rfl,_,⟨rfl,q2⟩,fun todo=>⟨rfl,q1,rfl,_,SqP.func54,q3⟩⟩))
 refine⟨w5,gc,bl,bf,aL,aF,xs,?_,((((((d0.trans d1).trans d2).trans d3).trans d4).trans d5).trans d6).trans (d7.trans d8)⟩
 have hs:=h4.size
 have h5:∀ b o,w4.heap[b]?=some o->w5.heap[b]?=some o:=fun b o q=>(h4.block b (gei q).1).trans q
 have hu:wl.heap.size<=w4.heap.size:=h0.below.size
 refine⟨⟨h4.os.trans h0.below.os,rfl,h4.output.trans h0.below.output,Nat.le_trans hu hs,fun b hb=>(h4.block b qg).trans (h0.below.block b hb)⟩,h0.grid.below h4,h5 _ _ h0.lights,h5 _ _ h0.feet,h0.sizeL,h0.sizeF,h0.atL,h0.atF,h0.lt,fun j hj=>(h0.row j hj).keep (fun b hb=>?_),h0.apart,h0.once⟩
 rcases (h0.row j hj).1 with ⟨q,_⟩|⟨g,cp,q,_,_,_,_,q6⟩
 ·rw[q] at hb;simp[Value.ownBlock] at hb
 ·rw[q] at hb
  simp[Value.ownBlock] at hb
  subst hb
  exact h4.block g (gei q6).1
end
end
section
open Go Go.Conc Go.ConcN Go.RowKit Go.Conc.Lib Go.ConcR.Gen Go.ConcN.Gen
open Go.ConcR (KK wgBlock WgAt stA smA rd wr mk Payload Aside2 DC0)
section
variable{Goal:Machine->Trace->Prop}{c:Frame}{cs:List Frame}
def zss(Goal:Machine->Trace->Prop)(c:Frame)(cs:List Frame)(wd:Int)(n M:Nat)(RowP:Nat->Value->List (Nat × Obj)->Prop)(objL:Obj)(objC:Array Value)(Shun:Np)(w:World):Prop :=
 ∀(w1:World) (bs bc bl bf:Nat) (u2:World) (xs:Nat->Value) (bsf:Nat->List (Nat × Obj)) (Sh:Np),w.heap.size<=w1.heap.size->(∀ e,e<w.heap.size->w1.heap[e]?=w.heap[e]?)->w1.tape=w.tape->w1.os=w.os->w1.output=w.output->w.heap.size<=bs->w.heap.size<=bc->w1.heap[bc]?=some (.cells objC 48)->¬ Shun bc->bc≠bs ->
   zcp (fun e=>e<w1.heap.size/\¬ Shun e/\e≠bs) w1 u2->w1.heap.size<=bl->u2.heap[bl]?=some objL->¬ Sh bl->(∀ k,k<M->∀ p∈bsf k,p.1≠bl)->bl≠bf->zd7 RowP M w1.heap.size u2 bf xs bsf Sh->(∀ e,Sh e->Shun e\/w1.heap.size<=e)->zau Tryz.prog Goal Sh (fun _=>False) (G (c.finish (.tuple #[.agg (xH wd (xA bc) n n (xA bl) M M (xA bf) M M),.bool true])) cs) u2
theorem ldG{main:Bool}{Live:Wq}{ch:Nat}{K:Np}{σ:Nat}{S:Np}{k:List Item}{cs:List Frame}{ops:Array Oper}{i:Nat}{o:Oper}(ho:ops[i]?=some o)(hw:Region.wanted o (yielded ops a.tmps)=true)(hk:b.kind≠.early)(e1:o.op=.load 33 (.tmp 1))(e2:a.tmps[1]?.getD undef=.pointer (xA bg))(hm:(bg,.cells (xG wd ga n cap) 33)∈l)(hn:zah Tryz.prog main Live Ex Stop Snd ch K l σ S (G (b.at (a.put o.dst (.agg (xG wd ga n cap))) (.inRegion ops rest::k)) cs)):zah Tryz.prog main Live Ex Stop Snd ch K l σ S (G (b.at a (.inRegion ops (i::rest)::k)) cs):=by
 refine zah.val ho hw hk (v:=.agg (xG wd ga n cap)) (fun w hp=>?_) (fun hl w hp e he=>?_) hn
 ·have c0:w.cell? (O bg 0)=some (J wd):=hp.cell hm 0 rfl
  have c1:w.cell? (O bg 1)=some (.slice ga n cap):=hp.cell hm 1 rfl
  obtain⟨dst,op,ty,pos,aft,gd⟩:=o
  obtain rfl:op=_:=e1
  clear ho hw hn hm
  simp[go_sem, *]
 ·have c0:w.cell? (O bg 0)=some (J wd):=hp.cell hm 0 rfl
  have c1:w.cell? (O bg 1)=some (.slice ga n cap):=hp.cell hm 1 rfl
  obtain⟨dst,op,ty,pos,aft,gd⟩:=o
  obtain rfl:op=_:=e1
  clear ho hw hn
  simp[go_sem, *] at he
  rcases he with rfl|rfl
  all_goals exact zaM hl hm _
theorem zuB(hG:zbj Tryz.prog Goal)(h5:∀ p∈l0,Kc p.1)(h2:zjY Goal wd ga n cap M l0 Kc RowP)(h3:ztu Goal wd ga n cap M l0 Kc objL){Shun:Np}(h4:zss Goal c cs wd n M RowP objL objC Shun w){bs bc:Nat}{S1 S2:Np}(h0:Hp ((bc,.cells objC 48)::(bs,.cells xF 35)::(bg,.cells (xG wd ga n cap) 33)::l0) w1)(q1:w.heap.size<=w1.heap.size)(q2:∀ d,((((False\/d=bg)\/d=bs)\/S1 d)\/S2 d)->False\/w.heap.size<=d)(q4:∀ d,Kc d\/((((False\/d=bg)\/d=bs)\/S1 d)\/S2 d)->d<w1.heap.size/\¬ Shun d/\¬ False)(q6:∀ d,d<w.heap.size->¬ False->w1.heap[d]?=w.heap[d]?)(q7:w1.tape=w.tape)(q8:w1.os=w.os)(q9:w1.output=w.output)(h1:S2 bc/\¬ Kc bc/\¬ (((False\/bc=bg)\/bc=bs)\/S1 bc))(y0 y3 y4 y5 y6 y7 y8 y11 y13 y14:Value) :
  zau Tryz.prog Goal Shun (fun _=>False) (G ((base 54).at ⟨#[y0,.pointer (xA bg),.pointer (xA bs),y3,y4,y5,y6,y7,y8,.agg (xG wd (xA bc) n n),.agg (xG wd ga n cap),y11,.agg (xG wd ga n cap),y13,y14],[]⟩ [.inRegion zgi [3,5,6,7,8],.code .ret]) (c::cs)) w1 :=
 zuE hG h5 h2 h3 (fun p h=>h0 p (mcm (mcm (mcm h)))) (fun e he=>⟨(q4 e (.inl he)).1,(q4 e (.inl he)).2.1⟩) (h0 _ (mcm mcs)) (q4 bs (.inr (.inl (.inl (.inr rfl))))).2.1 (h0 _ (mcm (mcm mcs))) (q4 bg (.inr (.inl (.inl (.inl (.inr rfl)))))).2.1 (fun u2 bl bf xs bsf Sh k1 k2 k3 k4 k5 k6 k7 k8=>h4 w1 bs bc bl bf u2 xs bsf Sh q1 (fun e he=>q6 e he (fun h=>h)) q7 q8 q9 ((q2 bs (.inl (.inl (.inr rfl)))).resolve_left id) ((q2 bc (.inr h1.1)).resolve_left id) (h0 _ mcs) (q4 bc (.inr (.inr h1.1))).2.1 (fun e=>by subst e;exact h1.2.2 (.inl (.inr rfl))) k1 k2 k3 k4 k5 k6 k7 k8) y0 y3 y4 y5 y6 y7 y8 y11 y13 y14
theorem zuC(hG:zbj Tryz.prog Goal)(h5:∀ p∈l0,Kc p.1)(h2:zjY Goal wd ga n cap M l0 Kc RowP)(h3:ztu Goal wd ga n cap M l0 Kc objL){Shun:Np}(h4:zss Goal c cs wd n M RowP objL objC Shun w){bs bc:Nat}{S1 S2:Np}(h0:Hp ((bc,.cells objC 48)::(bs,.cells xF 35)::(bg,.cells (xG wd ga n cap) 33)::l0) w1)(q1:w.heap.size<=w1.heap.size)(q2:∀ d,((((False\/d=bg)\/d=bs)\/S1 d)\/S2 d)->False\/w.heap.size<=d)(q4:∀ d,Kc d\/((((False\/d=bg)\/d=bs)\/S1 d)\/S2 d)->d<w1.heap.size/\¬ Shun d/\¬ False)(q6:∀ d,d<w.heap.size->¬ False->w1.heap[d]?=w.heap[d]?)(q7:w1.tape=w.tape)(q8:w1.os=w.os)(q9:w1.output=w.output)(h1:S2 bc/\¬ Kc bc/\¬ (((False\/bc=bg)\/bc=bs)\/S1 bc))(y0 y3 y4 y5 y6 y7 y8 y11 y12 y13 y14:Value) :
  zau Tryz.prog Goal Shun (fun _=>False) (G ((base 54).at ⟨#[y0,.pointer (xA bg),.pointer (xA bs),y3,y4,y5,y6,y7,y8,.agg (xG wd (xA bc) n n),.agg (xG wd ga n cap),y11,y12,y13,y14],[]⟩ [.inRegion zgi [3,4,5,6,7,8],.code .ret]) (c::cs)) w1 :=
 zuF hG h5 h2 h3 (fun p h=>h0 p (mcm (mcm (mcm h)))) (fun e he=>⟨(q4 e (.inl he)).1,(q4 e (.inl he)).2.1⟩) (h0 _ (mcm mcs)) (q4 bs (.inr (.inl (.inl (.inr rfl))))).2.1 (h0 _ (mcm (mcm mcs))) (q4 bg (.inr (.inl (.inl (.inl (.inr rfl)))))).2.1 (fun u2 bl bf xs bsf Sh k1 k2 k3 k4 k5 k6 k7 k8=>h4 w1 bs bc bl bf u2 xs bsf Sh q1 (fun e he=>q6 e he (fun h=>h)) q7 q8 q9 ((q2 bs (.inl (.inl (.inr rfl)))).resolve_left id) ((q2 bc (.inr h1.1)).resolve_left id) (h0 _ mcs) (q4 bc (.inr (.inr h1.1))).2.1 (fun e=>by subst e;exact h1.2.2 (.inl (.inr rfl))) k1 k2 k3 k4 k5 k6 k7 k8) y0 y3 y4 y5 y6 y7 y8 y11 y12 y13 y14
theorem zkO{L:Program}[T:zaF L Tryz.prog][zaF L L](W:Whole L)(B:Bodies L Tryz.prog X)(hX:zmk L X)(hg:L.funcs[71]?=some Tryz.f71)(hj:¬ X 71)(hk:L.funcs[72]?=some Tryz.f72)(hl:¬ X 72)(hG:zbj Tryz.prog Goal)(h4:∀ p∈l0,Kc p.1)(h0:zjY Goal wd ga n cap M l0 Kc RowP)(h1:ztu Goal wd ga n cap M l0 Kc objL){Shun:Np}(hq:Hp l0 w)(h7:∀ e,Kc e->e<w.heap.size/\¬ Shun e)(hs:∀ w,Hp l0 w->Closed Kc w)(h8:zaj (zcN Kc) (.slice ga n cap) (.slice ga n cap))(hu:∀ w,Hp l0 w->∀ τ d,Calls L 71 #[.agg (xG wd ga n cap)] (w.frz.tp τ d) fun e _=>e=.returned (.bool true)){zhD:World->Value->Wq}{zsw:Value->List (Nat × Obj)->Prop}(hw:∀ w0 v w τ d,zhD w0 v w->zhD w0 v (w.tp τ d))(h6:∀ w,Hp l0 w->∀ τ d,Calls L 72 #[.agg (xG wd ga n cap)] (w.frz.tp τ d) fun e w'=>∃ v,e=.returned v/\zhD w v w')(hy:∀ w0 v v' R wl w₁,zhD w0 v wl->zaj R v v'->zbh w0.heap.size R wl w₁->∃ bs,zsw v' bs/\Hp bs w₁/\∀ p∈bs,zbI w0.heap.size R p.1)(hz:∀ v bs,zsw v bs->∃ bc,v=.agg (xG wd (xA bc) n n)/\bs=[(bc,.cells objC 48)])(h2:zss Goal c cs wd n M RowP objL objC Shun w) :
  zau Tryz.prog Goal Shun (fun _=>False) (G (Frame.enter Tryz.prog 54 #[.agg (xG wd ga n cap)] .normal) (c::cs)) w:=by
 have h9:∀(w:World) (o:Obj),(fun _:World=>True) w->(fun _:World=>True) (w.alloc o):=fun _ _ h=>h
 refine zau.way hG (ch:=0) (K:=Kc) (S:=fun _=>False) (l:=l0) (lx:=[]) hq (fun p h=>.inl (h4 p h)) (fun _ h=>by cases h) (fun _ h=>by cases h) (fun _ h=>h.elim) (fun c hc=>⟨(h7 c (hc.elim id fun x=>x.elim)).1,(h7 c (hc.elim id fun x=>x.elim)).2,fun h=>h⟩) ?_
 rw[enter_at _ func54 rfl]
 walk_nrmf Tryz.f54
 refine zah.sq ?_
 refine zah.rg ?_
 simp only[rgs,Nat.reduceAdd]
 refine zah.new h9 rfl rfl qj (V:=fun c=>.pointer (xA c)) (obj:=.cells (xG wd ga n cap) 33) (fun w hp=>qq) (fun _ w hp e he=>by simp[go_sem] at he) fun bg hK_bg hS_bg=>?_
 walk_nrm
 refine zah.new h9 rfl rfl qj (V:=fun c=>.pointer (xA c)) (obj:=.cells xF 35) (fun w hp=>qq) (fun _ w hp e he=>by simp[go_sem] at he) fun bs hK_bs hS_bs=>?_
 walk_nrm
 refine zah.va (v:=.bool false) ?_
 walk_nrm
 refine zah.re ?_
 refine zah.sq ?_
 refine zah.sq ?_
 refine zah.rg ?_
 simp only[rgs,Nat.reduceAdd]
 refine ldG rfl rfl qj rfl rfl (mcm mcs) ?_
 walk_nrm
 have h3:∀ w,Hp ((bs,.cells xF 35)::(bg,.cells (xG wd ga n cap) 33)::l0) w->Closed Kc w:=fun w hp=>hs w fun p h=>hp p (mcm (mcm h))
 refine zah.enter rfl rfl qj (fun w=>run_call_body rfl func71 rfl rfl) (fun w=>events_call_body rfl func71 rfl rfl _) ?_
 walk_nrm
 refine zah.callv (Kc:=Kc) (Lv:=fun _=>False) W B (fun _ _ _ _=>trivial) (fun _ _ _ h=>h.elim) hX hg rfl hj qh (v0:=.bool true) (fun _ _ h=>zcK h) (fun _ h=>h) h3 (zcG _ h8) (fun w hp=>hu w fun p h=>hp p (mcm (mcm h))) fun S1=>?_
 simp only[Frame.finish_at]
 walk_nrm
 refine zah.va (v:=.bool false) ?_
 walk_nrm
 refine zah.re ?_
 refine zah.ctl rfl (fun _=>stepG_cond (t:=false) rfl) ?_
 simp only[Bool.false_eq_true,↓reduceIte]
 refine zah.ctl rfl (fun _=>stepG_skip) ?_
 refine zah.sq ?_
 have hA:∀ w,Hp ((bs,.cells xF 35)::(bg,.cells (xG wd ga n cap) 33)::l0) w->_:=fun w hp=>h6 w fun p h=>hp p (mcm (mcm h))
 refine zah.draw (rs:=[[0,1,2,3,4,5,6,7,8],[0,1,2,4,3,5,6,7,8],[0,1,4,2,3,5,6,7,8],[0,2,1,3,4,5,6,7,8],[0,2,1,4,3,5,6,7,8],[0,2,4,1,3,5,6,7,8],[0,4,1,2,3,5,6,7,8],[0,4,2,1,3,5,6,7,8],[2,0,1,3,4,5,6,7,8],[2,0,1,4,3,5,6,7,8],[2,0,4,1,3,5,6,7,8],[2,4,0,1,3,5,6,7,8],[4,0,1,2,3,5,6,7,8],[4,0,2,1,3,5,6,7,8],[4,2,0,1,3,5,6,7,8]]) qh (fun _ h=>h) qh fun r hr=>?_
 simp only[List.mem_cons,List.not_mem_nil,or_false] at hr
 rcases hr with rfl|rfl|rfl|rfl|rfl|rfl|rfl|rfl|rfl|rfl|rfl|rfl|rfl|rfl|rfl
 all_goals
  repeat (refine ldG rfl rfl qj rfl rfl (mcm mcs) ?_;walk_nrm)
  refine zah.enter rfl rfl qj (fun w=>run_call_body rfl func72 rfl rfl) (fun w=>events_call_body rfl func72 rfl rfl _) ?_
  walk_nrm
  refine zah.callMb (Kc:=Kc) (Lv:=fun _=>False) (Post:=zhD) (Q:=zsw) W B (fun _ _ _ _=>trivial) (fun _ _ _ h=>h.elim) hX hk rfl hl hw (fun _ h=>h) h3 (zcG _ h8) hA hy fun S2 v2 b2 hq2 hb2 hl2=>?_
  obtain⟨bc,rfl,rfl⟩:=hz v2 b2 hq2
  simp only[Frame.finish_at,List.cons_append,List.nil_append]
  walk_nrm
  repeat (refine ldG rfl rfl qj rfl rfl (mcm (mcm mcs)) ?_;walk_nrm)
  first
   | exact zah.stop fun hD w1 h5 _ hf q1 q2 q3 q4 q5 q6 q7 q8 q9=>zuB hG h4 h0 h1 h2 h5 q1 q2 q4 q6 q7 q8 q9 (hb2 _ (List.mem_singleton.2 rfl)) _ _ _ _ _ _ _ _ _ _
   | exact zah.stop fun hD w1 h5 _ hf q1 q2 q3 q4 q5 q6 q7 q8 q9=>zuC hG h4 h0 h1 h2 h5 q1 q2 q4 q6 q7 q8 q9 (hb2 _ (List.mem_singleton.2 rfl)) _ _ _ _ _ _ _ _ _ _ _
end
section
variable{Goal:Machine->Trace->Prop}{c:Frame}{cs:List Frame}
theorem zm6{L:Program}[T:zaF L Tryz.prog][zaF L L](W:Whole L)(B:Bodies L Tryz.prog X)(hX:zmk L X)(h7:L.funcs[71]?=some Tryz.f71)(h1:¬ X 71)(hG:zbj Tryz.prog Goal)(h8:∀ p∈l0,Kc p.1){Shun:Np}(h9:Hp l0 w)(h2:∀ e,Kc e->e<w.heap.size/\¬ Shun e)(hf:∀ w,Hp l0 w->Closed Kc w)(hg:zaj (zcN Kc) (.slice ga n cap) (.slice ga n cap))(hj:∀ w,Hp l0 w->∀ τ d,Calls L 71 #[.agg (xG wd ga n cap)] (w.frz.tp τ d) fun e _=>e=.returned (.bool false))(h4:∀ u:World,zcp (fun e=>e<w.heap.size/\¬ Shun e) w u->zau Tryz.prog Goal Shun (fun _=>False) (G (c.finish (.tuple #[.agg xF,.bool false])) cs) u) :
  zau Tryz.prog Goal Shun (fun _=>False) (G (Frame.enter Tryz.prog 54 #[.agg (xG wd ga n cap)] .normal) (c::cs)) w:=by
 have h3:∀(w:World) (o:Obj),(fun _:World=>True) w->(fun _:World=>True) (w.alloc o):=fun _ _ h=>h
 refine zau.way hG (ch:=0) (K:=Kc) (S:=fun _=>False) (l:=l0) (lx:=[]) h9 (fun p h=>.inl (h8 p h)) (fun _ h=>by cases h) (fun _ h=>by cases h) (fun _ h=>h.elim) (fun c hc=>⟨(h2 c (hc.elim id fun x=>x.elim)).1,(h2 c (hc.elim id fun x=>x.elim)).2,fun h=>h⟩) ?_
 rw[enter_at _ func54 rfl]
 walk_nrmf Tryz.f54
 refine zah.sq ?_
 refine zah.rg ?_
 simp only[rgs,Nat.reduceAdd]
 refine zah.new h3 rfl rfl qj (V:=fun c=>.pointer (xA c)) (obj:=.cells (xG wd ga n cap) 33) (fun w hp=>qq) (fun _ w hp e he=>by simp[go_sem] at he) fun bg hK_bg hS_bg=>?_
 walk_nrm
 refine zah.new h3 rfl rfl qj (V:=fun c=>.pointer (xA c)) (obj:=.cells xF 35) (fun w hp=>qq) (fun _ w hp e he=>by simp[go_sem] at he) fun bs hK_bs hS_bs=>?_
 walk_nrm
 refine zah.va (v:=.bool false) ?_
 walk_nrm
 refine zah.re ?_
 refine zah.sq ?_
 refine zah.sq ?_
 refine zah.rg ?_
 simp only[rgs,Nat.reduceAdd]
 refine ldG rfl rfl qj rfl rfl (mcm mcs) ?_
 walk_nrm
 have h5:∀ w,Hp ((bs,.cells xF 35)::(bg,.cells (xG wd ga n cap) 33)::l0) w->Closed Kc w:=fun w hp=>hf w fun p h=>hp p (mcm (mcm h))
 refine zah.enter rfl rfl qj (fun w=>run_call_body rfl func71 rfl rfl) (fun w=>events_call_body rfl func71 rfl rfl _) ?_
 walk_nrm
 refine zah.callv (Kc:=Kc) (Lv:=fun _=>False) W B (fun _ _ _ _=>trivial) (fun _ _ _ h=>h.elim) hX h7 rfl h1 qh (v0:=.bool false) (fun _ _ h=>zcK h) (fun _ h=>h) h5 (zcG _ hg) (fun w hp=>hj w fun p h=>hp p (mcm (mcm h))) fun S1=>?_
 simp only[Frame.finish_at]
 walk_nrm
 refine zah.va (v:=.bool true) ?_
 walk_nrm
 refine zah.re ?_
 refine zah.ctl rfl (fun _=>stepG_cond (t:=true) rfl) ?_
 simp only[↓reduceIte]
 refine zah.sq ?_
 refine zah.rg ?_
 simp only[rgs,Nat.reduceAdd]
 refine zah.va (v:=.agg xF) ?_
 walk_nrm
 refine zah.put (l':=[(bs,.cells xF 35)]) (c:=bs) (obj:=.cells xF 35) rfl rfl qj (.inl (.inr rfl)) (fun _ _ _ h=>h) (fun w hp=>⟨_,zif (ty:=35) (cells:=xF) rfl rfl rfl (hp.at mcs) zdD rfl qo,(zaH (hp.at mcs)).1,(zaH (hp.at mcs)).2⟩) (fun _ w hp e he=>?_) (fun p hp=>?_) ?_
 ·obtain⟨q,rfl⟩:=zlB (ty:=35) (cells:=xF) rfl rfl rfl (hp.at mcs) zdD rfl qo e he
  exact Or.inl ⟨_,_,rfl,Or.inl (.inl (.inr rfl))⟩
 ·rcases List.mem_cons.1 hp with rfl|hp
  ·exact .inl rfl
  ·cases hp
 walk_nrm
 refine zah.va (v:=.bool false) ?_
 walk_nrm
 refine zah.re ?_
 refine zah.ctl rfl (fun _=>stepG_ret') ?_
 refine zah.leave (v:=.tuple #[.agg xF,.bool false]) rfl rfl func54 (fun w hp=>?_) (fun hl w hp e he=>?_) ?_
 ·have c0:=hp.cell mcs 0 rfl
  have c1:=hp.cell mcs 1 rfl
  have c2:=hp.cell mcs 2 rfl
  have c3:=hp.cell mcs 3 rfl
  simp[results,results54,go_sem,c0,c1,c2,c3]
 ·have c0:=hp.cell mcs 0 rfl
  have c1:=hp.cell mcs 1 rfl
  have c2:=hp.cell mcs 2 rfl
  have c3:=hp.cell mcs 3 rfl
  simp[results,results54,go_sem,c0,c1,c2,c3] at he
  rcases he with rfl|rfl|rfl|rfl
  all_goals exact zaM hl mcs _
 refine zah.stop fun hz w3 hA _ hw=>?_
 intro h6 hu h1 hy _ h0 hk hq hs
 exact h4 w3 ⟨fun e he=>h0 e he.1 (fun h=>h),hk,hq,hs,h6⟩
end
def ztl(wd:Int)(gl:Lp):Nat->Value->List (Nat × Obj)->Prop:=fun k x bs =>
 (x=.slice none 0 0/\Sp.zaA wd gl (k:Int)=[]/\bs=[])\/∃ b C,x=.slice (xA b) (Sp.zaA wd gl (k:Int)).length C/\0<(Sp.zaA wd gl (k:Int)).length/\(Sp.zaA wd gl (k:Int)).length<=C/\C<=maxLen/\bs=[(b,.cells (zgP (Sp.zaA wd gl (k:Int)) C) 3)]
theorem ztl.slice{k:Nat}(h:ztl wd gl k x bs):∃ xa xn xc,x=.slice xa xn xc:=by
 rcases h with ⟨e,_⟩|⟨b,C,e,_⟩
 ·exact⟨_,_,_,e⟩
 ·exact⟨_,_,_,e⟩
def zsu(wd:Int)(gl:Lp):Nat->World->Value->Wq:=fun k w0 v wl=>zd4 wl w0.heap.size 3 v (Sp.zaA wd gl (k:Int))
theorem zjW(xs:List Int)(C:Nat):∀ i (h:i<(zgP xs C).size),∃ n,(zgP xs C)[i]=J n:=by
 intro i h
 unfold zgP at h ⊢
 rw[Array.getElem_append]
 split
 ·rename_i h'
  simp[zeq]
 ·simp
theorem zs3(k:Nat)(w0:World)(v v':Value)(R:BR)(wl w₁:World)(hp:zsu wd gl k w0 v wl)(hv:zaj R v v')(hw:zbh w0.heap.size R wl w₁):∃ bs,ztl wd gl k v' bs/\Hp bs w₁/\∀ p∈bs,zbI w0.heap.size R p.1:=by
 rcases hp with ⟨rfl,he⟩|⟨g,C,rfl,hg,h1,h2,h3,hc⟩
 ·cases hv with
  | nilSlice _ _=>exact⟨[],.inl ⟨rfl,he,rfl⟩,(fun p hp=>by cases hp),(fun p hp=>by cases hp)⟩
 ·obtain⟨⟨c,o,s⟩,rfl,had⟩:=zaj.slice_at hv qg
  ·skip
   obtain⟨q1,q2,q3⟩:=had
   simp only at q1 q2 q3
   subst q2
   subst q3
   obtain⟨ob,ob',e1,e2,ho⟩:=hw.blk g c q1
   rw[hc] at e1
   cases e1
   cases ho with
   | cells hr _ hf =>
    have hf':=hf qg
    subst hf'
    have e:=zkq hr.1 hr.2 (zjW _ _)
    subst e
    exact⟨_,.inr ⟨c,C,rfl,h1,h2,h3,rfl⟩,fun p hp=>by simp at hp;subst hp;exact e2,fun p hp=>by simp at hp;subst hp;exact⟨g,q1,hg⟩⟩
   | other hj _=>cases hj
def zhD(wd:Int)(gl:Lp):World->Value->Wq:=fun w0 v wl=>∃ g,v=.agg (xG wd (xA g) gl.length gl.length)/\w0.heap.size<=g/\wl.heap[g]?=some (.cells (Sp.flat gl).toArray 48)
def zsw(wd:Int)(gl:Lp):Value->List (Nat × Obj)->Prop:=fun v bs=>∃ b,v=.agg (xG wd (xA b) gl.length gl.length)/\bs=[(b,.cells (Sp.flat gl).toArray 48)]
theorem ziT(gl:Lp):∀ i (h:i<(Sp.flat gl).toArray.size),∃ n,(Sp.flat gl).toArray[i]=J n:=by
 intro i h
 have hl:=Sp.zfj gl
 simp at h
 have hi:i / 2<gl.length:=qg
 obtain⟨h1,h2⟩:=Sp.zhS gl (i / 2) hi
 have e:i=i / 2 * 2\/i=i / 2 * 2+1:=qg
 rcases e with e|e
 ·rw[<- e] at h1
  rw[List.getElem?_eq_getElem h] at h1
  exact⟨_,by simpa using Option.some.inj h1⟩
 ·rw[<- e] at h2
  rw[List.getElem?_eq_getElem h] at h2
  exact⟨_,by simpa using Option.some.inj h2⟩
theorem zf9{g:Nat}(h:Sp.Own w B (.slice (xA g) gl.length gl.length) gl):B<=g/\w.heap[g]?=some (.cells (Sp.flat gl).toArray 48):=by
 rcases h.2 with ⟨q,_⟩|⟨g',cap,cur,q,hB,hg,_,_,hs,ht⟩
 ·simp at q
 ·simp only[Value.slice.injEq,Option.some.injEq,Addr.mk.injEq,and_true,true_and] at q
  obtain⟨rfl,rfl⟩:=q
  refine⟨hB,?_⟩
  rw[hg]
  have e:cur.toList=Sp.flat gl:=by
   rw[<- ht,List.take_of_length_le (by simp[hs])]
  rw[<- e]
theorem zqu(hpos:0<gl.length)(w0:World)(v v':Value)(R:BR)(wl w₁:World)(hp:zhD wd gl w0 v wl)(hv:zaj R v v')(hw:zbh w0.heap.size R wl w₁):∃ bs,zsw wd gl v' bs/\Hp bs w₁/\∀ p∈bs,zbI w0.heap.size R p.1:=by
 obtain⟨g,rfl,hg,hc⟩:=hp
 cases hv with
 | agg h1 h2 =>
  rename_i cc'
  have hs:cc'.size=2:=by rw[<- h1];rfl
  have q0:=h2 0 qm qg
  have q1:=h2 1 qm qg
  have e0:=zc0 q0
  obtain⟨b,e1,hb⟩:∃ b,cc'[1]' qg=.slice (xA b) gl.length gl.length/\R g b:=by
   have q1':zaj R (.slice (xA g) gl.length gl.length) (cc'[1]' qg):=q1
   revert q1'
   generalize cc'[1]' qg=z
   intro q1'
   obtain⟨⟨c,o,s⟩,rfl,r1,r2,r3⟩:=zaj.slice_at q1' hpos
   simp only at r1 r2 r3
   subst r2
   subst r3
   exact⟨c,rfl,r1⟩
  obtain⟨ob,ob',f1,f2,ho⟩:=hw.blk g b hb
  rw[hc] at f1
  cases f1
  cases ho with
  | cells hr _ hf =>
   have hf':=hf qg
   subst hf'
   have e:=zkq hr.1 hr.2 (ziT _)
   subst e
   refine⟨_,⟨b,congrArg Value.agg (Array.ext (by simp[hs]) fun i hi1 hi2=>?_),rfl⟩,fun p hp=>by simp at hp;subst hp;exact f2,fun p hp=>by simp at hp;subst hp;exact⟨g,hb,hg⟩⟩
   have:i=0\/i=1:=by simp at hi2;omega
   rcases this with rfl|rfl
   ·exact e0
   ·exact e1
  | other hj _=>cases hj
section
variable{Goal:Machine->Trace->Prop}{Shun:Np}{c:Frame}{cs:List Frame}
theorem zqE(hG:zbj Tryz.prog Goal){W H:Nat}{gs:Lp}(hok:Sp.okG (W:Int) gs=true)(hW:1<=W/\W<=5)(hH:1<=H/\H<=5)(el:gs.length=W * H)(hHd:gs.length / W=H)(hHI:(gs.length:Int) / (W:Int)=(H:Int))(hl0:∀ p∈l0,Kc p.1)(hcl:∀ w,Hp l0 w->Closed Kc w)(hKl:∀ c,Kc c->∃ p∈l0,p.1=c)(hga:zaj (zcN Kc) (.slice ga gs.length cap) (.slice ga gs.length cap))(hC:∀ w,Hp l0 w->∀ τ d,Sp.zaf (w.frz.tp τ d) ga gs)(w:World)(hp0:Hp l0 w)(hKc:∀ c,Kc c->c<w.heap.size/\¬ Shun c)(hfin:∀(u:World) (bo:Nat) (xs:Nat->Value) (bsf:Nat->List (Nat × Obj)),zcp (fun e=>e<w.heap.size/\¬ Shun e) w u->w.heap.size<=bo->u.heap[bo]?=some (.cells (Array.ofFn fun k:Fin (2 * (W+H))=>xs k) 25) ->
   (∀ k,k<2 * (W+H)->ztl (W:Int) gs k (xs k) (bsf k)/\Hp (bsf k) u/\∀ p∈bsf k,w.heap.size<=p.1/\p.1≠bo)->(∀ k k' p p',k<2 * (W+H)->k'<2 * (W+H)->p∈bsf k->p'∈bsf k'->p.1=p'.1->k=k') ->
   ∀ Shun':Np,(∀ e,Shun' e->Shun e\/w.heap.size<=e)->¬ Shun' bo->(∀ k,k<2 * (W+H)->∀ p∈bsf k,¬ Shun' p.1)->zau Tryz.prog Goal Shun' (fun _=>False) (G (c.finish (.slice (xA bo) (2 * (W+H)) (2 * (W+H)))) cs) u) :
  zau Tryz.prog Goal Shun (fun _=>False) (G (Frame.enter Tryz.prog 74 #[.agg (xG (W:Int) ga gs.length cap),.func (.func 67) #[] #[]] .normal) (c::cs)) w:=by
 haveI:Payload:=⟨0⟩
 obtain⟨W1,W5⟩:=hW
 obtain⟨H1,H5⟩:=hH
 have hn25:gs.length<=25:=by rw[el];exact Nat.le_trans (Nat.mul_le_mul W5 H5) qg
 have hM:Sp.zbV (W:Int) gs=((2 * (W+H):Nat):Int):=by rw[Sp.zcQ hok hHI];omega
 have hside:Sp.zbS (W:Int) (H:Int) (gs.length:Int)=#[J ((sF W H 0:Nat):Int),J (W:Int),J 0,J 1,J 2,J 0,J ((sF W H 1:Nat):Int),J (H:Int),J ((W:Int) - 1),J (W:Int),J 3,J 1,J ((sF W H 2:Nat):Int),J (W:Int),J ((gs.length:Int) - 1),J (-1),J 0,J 2,J ((sF W H 3:Nat):Int),J (H:Int),J ((gs.length:Int) - 1 - (W:Int)+1),J (-(W:Int)),J 1,J 3]:=by
  simp[Sp.zbS,sF]
 have hhas:∀(f m s o i u:Int),0<=f/\f<=100->0<=m/\m<=100->∀(k:Nat) (w:World),Calls SqN.prog 115 #[.agg #[J f,J m,J s,J o,J i,J u],J k] w fun e _=>e=.returned (.bool (decide (f<=k/\(k:Int)<f+m))) :=
  fun f m s o i u h1 h2 k w=>(Sp.zeQ f m s o i u k h1 h2 _ rfl w).mono fun e w' h=>h.1
 refine R2.zd0 (L:=SqN.prog) (X:=fun _=>false=true) (f0:=sF W H) (e0:=sE W H) (Post:=zsu (W:Int) gs) (RowP:=ztl (W:Int) gs) (many:=2 * (W+H)) hG SqN.whole SqN.bodies (fun _ h=>by cases h) (zfx func71) (fun h=>by cases h) (zfx func85) (fun h=>by cases h) (zfx func86) (fun h=>by cases h) hl0 hcl hga
  (fun w hp τ d=>((Sp.zar (W:Int) ga cap gs _ (hC w hp τ d) qg).mono fun e w' h=>by rw[h.1,hok]))
  (fun w hp τ d=>((Sp.zdf (W:Int) ga cap gs _ (hC w hp τ d) qg).mono fun e w' h=>by rw[h.1,hM]))
  (fun w hp τ d=>((Sp.zb8 W H ga gs.length cap _ ⟨W1,W5⟩ ⟨H1,H5⟩ hn25 hHd).mono fun e w' h=>by rw[h.1,hside]))
  (zfx func115) (fun h=>by cases h) (zfx func67) func67 rfl rfl (fun h=>by cases h) qh ?_ ?_ hKl ?_ ?_ ?_ ?_ ?_ ?_ ?_ ?_ ?_ ?_ ?_ ?_ ?_
  (fun k hk w hp τ d=>((Sp.zdB (W:Int) ga cap gs _ (hC w hp τ d) qg (k:Int)).mono fun e w' ⟨v,h1,h2,_,_⟩=>⟨_,h1,(by have h3:=h2;rw[show (w.frz.tp τ d).heap.size=w.heap.size from zfk w] at h3;exact h3:zsu (W:Int) gs k w v w')⟩)) (fun _ _ _ _ _ _ h=>h) zs3 (fun k x bs h=>h.slice) ?_ qg w hp0 hKc hfin
 all_goals exact zhh
end
theorem zrp{FinP:Frame->Wq}{c:Frame}{cs:List Frame}{N:Nat}{R:BR}{v v':Value}(hw:zbh N R (wl.tp w.tape w.drawn) w)(hv:zaj R v v')(tr:zb5 SqP.prog FinP (Frame.enter SqP.prog 54 #[v] .normal) (c::cs) wl) :
  ∃ wd ga ga' m gl,v=.agg (xG wd ga (List.length gl) m)/\v'=.agg (xG wd ga' gl.length m)/\gl.length<4611686018427387904/\Sp.zaf wl ga gl/\zaj R (.slice ga gl.length m) (.slice ga' gl.length m):=by
 rw[enter_at _ SqP.func54 SqP.body54,SqP.ntmps54,zpY] at tr
 have tr1:zb5 (@Sq.prog Sq.P) FinP ((base 54).at ⟨#[v,undef,undef,undef,undef,undef,undef,undef,undef,undef,undef,undef,undef,undef,undef,undef,undef,undef,undef,undef,undef,undef],[]⟩ [.code (zj7 .skip),.code zhi]) (c::cs) wl:=tr.ctl (fun _ _=>stepG_seq)
 have hrel:∀ n m ad,v.cells[1]?=some (.slice (some ad) n m)->0<n->∃ o,wl.heap[ad.block]?=some o/\∀ x y,o≠.view x y:=by
  intro n m ad hx hn0
  have key:∀ u u',zaj R u u'->u=.slice (some ad) n m->∃ o,wl.heap[ad.block]?=some o/\∀ x y,o≠.view x y:=by
   intro u u' hu e
   subst e
   cases hu with
   | slice _ _ had =>
    obtain⟨o,o',e1,_,ho⟩:=hw.blk _ _ had.1
    refine⟨o,e1,fun x y e=>?_⟩
    subst e
    cases ho with
    | other hj _=>cases hj
   | empty _ _=>omega
  cases hv with
  | agg h1 h2 =>
   rename_i cc cc'
   have hx':cc[1]?=some (.slice (some ad) n m):=hx
   obtain⟨hl,e⟩:=gei hx'
   exact key _ _ (h2 1 hl (by rw[<- h1];exact hl)) e
  | _=>simp[Value.cells] at hx
 obtain⟨wd,ga,n,m,rfl,hn62,hcells⟩:=@zn5 Sq.P _ _ _ _ _ _ _ Sq.wholeP hrel tr1
 obtain⟨ga',rfl,hgr⟩:∃ ga',v'=.agg (xG wd ga' n m)/\zaj R (.slice ga n m) (.slice ga' n m):=by
  cases hv with
  | agg h1 h2 =>
   rename_i cc'
   have hs:cc'.size=2:=by rw[<- h1];rfl
   have q0:=h2 0 qm qg
   have q1:=h2 1 qm qg
   have e0:=zc0 q0
   have e1:∃ ga',cc'[1]' qg=.slice ga' n m:=by
    have q1':zaj R (.slice ga n m) (cc'[1]' qg):=q1
    revert q1'
    generalize cc'[1]' qg=z
    intro q1'
    cases q1' with
    | slice _ _ _=>exact⟨_,rfl⟩
    | nilSlice _ _=>exact⟨_,rfl⟩
    | empty _ _=>exact⟨_,rfl⟩
   obtain⟨ga',e1⟩:=e1
   refine⟨ga',congrArg Value.agg (Array.ext (by simp[hs]) fun i hi1 hi2=>?_),by rw[<- e1];exact q1⟩
   have:i=0\/i=1:=by simp at hi2;omega
   rcases this with rfl|rfl
   ·exact e0
   ·exact e1
 obtain⟨gl,hgl,hCl⟩:=zmt hcells
 subst hgl
 exact⟨wd,ga,ga',m,gl,rfl,rfl,hn62,hCl,hgr⟩
