/- Part. -/
import Derived.Control
import Derived.Test.YtbggojblgbeohaaGreatLBg
import Derived.Test.YtbggojblgbeohaaGreatLBh
set_option maxHeartbeats 4000000
set_option linter.unusedVariables false
namespace Go.Proofs.YtbggojblgbeohaaGreat
variable{a:Act}{Post:Act->World->Prop}{b fr fr1:Frame}{X:FuncId->Prop}{wd:Int}{gl gs:List (Int × Int)}{bs l0:List (Nat × Obj)}{xs:List Int}{B M cap:Nat}{C:Nat->Nat}{Kc:Nat->Prop}{ga:Option Addr}{x:Value}{w w1 wl:World}
section
open Go Go.Conc
section
variable{L:Program}{FinP:Frame->World->Prop}
theorem zcw.of_tp{cs cs1:List Frame}{τ:Nat->Question->Nat}{d:Nat}(h:zcw L fr cs (w.tp τ d) fr1 cs1 w1)(hne:fr≠fr1\/cs≠cs1):zcw L fr cs w fr1 cs1 w1:=by
 cases h with
 | refl=>rcases hne with q|q <;> exact absurd rfl q
 | step τ' d' es e k=>exact .step τ' d' es e k
theorem zcw.ctl{cs:List Frame}(h:∀ cs w,stepG L true (G fr cs) w=.go (G fr1 cs) w #[]):zcw L fr cs w fr1 cs w :=
 .step w.tape w.drawn #[] (h (cs++[zaT L]) w) .refl
theorem ziE{c:Code}{k:List Item}{cs:List Frame}(t:zb8 L FinP (b.at a (.code c::k)) cs w)(τ:Nat->Question->Nat)(d:Nat)(h:c.wp L (fun e a' w'=>e=.normal/\Post a' w') a (w.tp τ d)) :
  ∃ a' w',Post a' w'/\zcw L (b.at a (.code c::k)) cs w (b.at a' k) cs w':=by
 obtain⟨e,a',w',⟨rfl,hp⟩,hs⟩:=h b k (cs++[zaT L])
 obtain⟨n,hn⟩:Steps L (lone (b.at a (.code c::k)) (cs++[zaT L]) (w.tp τ d)) (lone (b.at a' k) (cs++[zaT L]) w'):=hs
 refine⟨a',w',hp,(zbq n (t.tp τ d) hn).of_tp (.inl fun q=>?_)⟩
 have:(b.at a (.code c::k)).todo=(b.at a' k).todo:=by rw[q]
 have h2:(Item.code c::k)=k:=this
 exact absurd (congrArg List.length h2) (by simp)
theorem zq5{c:Code}{k k':List Item}{id:Nat}{cs:List Frame}(t:zb8 L FinP (b.at a (.code c::k)) cs w)(τ:Nat->Question->Nat)(d:Nat)(h:c.wp L (fun e a' w'=>e=.exit id/\Post a' w') a (w.tp τ d))(hk:exitTo id k=some k')(hl:k'.length<=k.length) :
  ∃ a' w',Post a' w'/\zcw L (b.at a (.code c::k)) cs w (b.at a' k') cs w':=by
 obtain⟨e,a',w',⟨rfl,hp⟩,hs⟩:=h b k (cs++[zaT L])
 obtain⟨n,hn⟩:Steps L (lone (b.at a (.code c::k)) (cs++[zaT L]) (w.tp τ d)) (lone (b.at a' k') (cs++[zaT L]) w'):=hs k' hk
 refine⟨a',w',hp,(zbq n (t.tp τ d) hn).of_tp (.inl fun q=>?_)⟩
 have:(b.at a (.code c::k)).todo=(b.at a' k').todo:=by rw[q]
 have h2:(Item.code c::k)=k':=this
 have h3:=congrArg List.length h2
 simp at h3
 omega
theorem zq4{c:Code}{k:List Item}{c0:Frame}{cs:List Frame}{Post:Value->World->Prop}(t:zb8 L FinP (b.at a (.code c::k)) (c0::cs) w)(h:c.wp L (fun e a' w'=>e=.ret/\∃ v,Post v w'/\∀ todo,({ b.at a' todo with mode:=.returning }:Frame).leaving L w' (.returned v)) a w) :
  ∃ v w',Post v w'/\zcw L (b.at a (.code c::k)) (c0::cs) w (c0.finish v) cs w':=by
 obtain⟨e,a',w',⟨rfl,v,hp,hl⟩,todo,hs⟩:=h b k (c0::cs++[zaT L])
 obtain⟨n,hn⟩:Steps L (lone (b.at a (.code c::k)) (c0::cs++[zaT L]) w) (lone { b.at a' todo with mode:=.returning } (c0::cs++[zaT L]) w'):=hs
 have d1:=zbq (cs':=c0::cs) n t hn
 have t1:=t.desc d1
 have hst:step L (lone { b.at a' todo with mode:=.returning } (c0::(cs++[zaT L])) w')=.next (lone (c0.finish v) (cs++[zaT L]) w'):=step_leave_returned (hl todo)
 refine⟨v,w',hp,d1.trans (zbq 1 t1 ?_)⟩
 simp only[runN,List.cons_append,hst]
end
end
section
open Go Go.Conc Go.ConcN Go.RowKit
def zla(w:World)(B:Nat)(x:Value)(xs:List Int)(C:Nat):Prop:=zdH w B 3 x xs/\(x=.slice none 0 0\/zbU x=C)
structure ScI(w0 w:World)(wd:Int)(gl:List (Int × Int))(M gc bl bf k:Nat)(C:Nat->Nat)(arrL arrF:Array Value)(xs:Nat->Value):Prop where
 below:Below w0.heap.size w0 (w.tp w0.tape w0.drawn)
 grid:Sp.Own w w0.heap.size (.slice (some ⟨gc,0,none⟩) gl.length gl.length) gl
 lights:w.heap[bl]?=some (.cells arrL 3)
 feet:w.heap[bf]?=some (.cells arrF 27)
 sizeL:arrL.size=M
 sizeF:arrF.size=M
 atL:∀ j,j<k->arrL[j]?=some (.int .i64 (Sp.zaJ wd gl (j:Int)))
 atF:∀ j,j<k->arrF[j]?=some (xs j)
 lt:w0.heap.size<=gc/\gc<bl/\bl<bf
 row:∀ j,j<k->zla w w0.heap.size (xs j) (Sp.zaM wd gl (j:Int)) (C j)
 apart:∀ j,j<k->∀ b,(xs j).ownBlock=some b->bf<b
 once:∀ j j' b,j<k->j'<k->(xs j).ownBlock=some b->(xs j').ownBlock=some b->j=j'
theorem zla.keep{w':World}{C:Nat}(h:zla w B x xs C)(hk:∀ b,x.ownBlock=some b->w'.heap[b]?=w.heap[b]?):zla w' B x xs C:=by
 refine⟨?_,h.2⟩
 rcases h.1 with q|⟨g,cap,rfl,q2,q3,q4,q5,q6⟩
 ·exact .inl q
 ·exact .inr ⟨g,cap,rfl,q2,q3,q4,q5,(hk g rfl).trans q6⟩
section
variable{FinP:Frame->World->Prop}{c:Frame}{cs:List Frame}
theorem zsi{w0:World}(hCl:Sp.zai w0 ga gl)(hn:gl.length<=25)(hl:0<gl.length){gc bl bf:Nat}(hM:M<=20)(hC:∀ k,k<M->1<=C k/\C k<=maxLen/\(Sp.zaM wd gl (k:Int)).length<=C k){kk:List Item} :
  ∀(r k:Nat),k+r=M->∀(w:World) (arrL arrF:Array Value) (xs:Nat->Value) (u1 u2 u3 u4 u5 u11 u12 u13 u14 u15 u16 u17 u18 u19 u20 u21:Value),ScI w0 w wd gl M gc bl bf k C arrL arrF xs ->
   zb8 SqP.prog FinP ((base 6).at ⟨#[.agg #[.int .i64 wd,.slice ga gl.length cap],u1,u2,u3,u4,u5,.agg #[.int .i64 wd,.slice (some ⟨gc,0,none⟩) gl.length gl.length],.int .i64 (M:Int),.slice (some ⟨bl,0,none⟩) M M,.slice (some ⟨bf,0,none⟩) M M,.int .i64 ((k:Int)),u11,u12,u13,u14,u15,u16,u17,u18,u19,u20,u21],[]⟩ (.code scL::.inLoop scL::.inBlock 1::kk)) (c::cs) w ->
   ∃ (w':World) (arrL' arrF':Array Value) (xs':Nat->Value) (U1 U2 U3 U4 U5 U11 U12 U13 U14 U15 U16 U17 U18 U19 U20 U21:Value),ScI w0 w' wd gl M gc bl bf M C arrL' arrF' xs' /\
    zcw SqP.prog ((base 6).at ⟨#[.agg #[.int .i64 wd,.slice ga gl.length cap],u1,u2,u3,u4,u5,.agg #[.int .i64 wd,.slice (some ⟨gc,0,none⟩) gl.length gl.length],.int .i64 (M:Int),.slice (some ⟨bl,0,none⟩) M M,.slice (some ⟨bf,0,none⟩) M M,.int .i64 ((k:Int)),u11,u12,u13,u14,u15,u16,u17,u18,u19,u20,u21],[]⟩ (.code scL::.inLoop scL::.inBlock 1::kk)) (c::cs) w ((base 6).at ⟨#[.agg #[.int .i64 wd,.slice ga gl.length cap],U1,U2,U3,U4,U5,.agg #[.int .i64 wd,.slice (some ⟨gc,0,none⟩) gl.length gl.length],.int .i64 (M:Int),.slice (some ⟨bl,0,none⟩) M M,.slice (some ⟨bf,0,none⟩) M M,.int .i64 ((M:Int)),U11,U12,U13,U14,U15,U16,U17,U18,U19,U20,U21],[]⟩ kk) (c::cs) w':=by
 intro r
 induction r with
 | zero =>
  intro k hk w arrL arrF xs u1 u2 u3 u4 u5 u11 u12 u13 u14 u15 u16 u17 u18 u19 u20 u21 hI t
  obtain rfl:k=M:=by omega
  obtain⟨a',w',⟨⟨u11',rfl⟩,rfl⟩,hd⟩:=zq5 (id:=1) (k':=kk) (Post:=fun a' w'=>(∃ u11,a'=⟨#[.agg #[.int .i64 wd,.slice ga gl.length cap],u1,u2,u3,u4,u5,.agg #[.int .i64 wd,.slice (some ⟨gc,0,none⟩) gl.length gl.length],.int .i64 (k:Int),.slice (some ⟨bl,0,none⟩) k k,.slice (some ⟨bf,0,none⟩) k k,.int .i64 ((k:Int)),u11,u12,u13,u14,u15,u16,u17,u18,u19,u20,u21],[]⟩)/\w'=w) t w.tape w.drawn (Sp.zsh wd ga cap gl _ k gc bl bf u1 u2 u3 u4 u5 u11 u12 u13 u14 u15 u16 u17 u18 u19 u20 u21 (fun u11=>⟨rfl,⟨u11,rfl⟩,rfl⟩)) rfl (by simp;omega)
  exact⟨_,arrL,arrF,xs,_,_,_,_,_,_,_,_,_,_,_,_,_,_,_,_,hI,hd⟩
 | succ r ih =>
  intro k hk w arrL arrF xs u1 u2 u3 u4 u5 u11 u12 u13 u14 u15 u16 u17 u18 u19 u20 u21 hI t
  have hkM:k<M:=by omega
  obtain⟨h1,h2,h3⟩:=hC k hkM
  have hlt:=hI.lt
  have hbl:=(gei hI.lights).1
  have hbf:=(gei hI.feet).1
  have hz0:=hI.below.size
  have hca:∀ b off,ga=some ⟨b,off,none⟩->b≠bl/\b≠bf:=by
   intro b off e
   rcases hCl with q|⟨b',off',e',hbl',_⟩
   ·rw[q] at hl;simp at hl
   ·rw[e] at e'
    simp only[Option.some.injEq,Addr.mk.injEq] at e'
    have hz0':w0.heap.size<=w.heap.size:=hz0
    omega
  obtain⟨τ,hτ⟩:∃ τ:Nat->Question->Nat,τ=fun _ _=>C k - 1:=⟨_,rfl⟩
  have hT:Sp.zj3 (w.tp τ 0) (C k):=⟨fun i q=>by rw[show (w.tp τ 0).tape=τ from rfl,hτ],h1,h2⟩
  have hCw0:Sp.zai (w.tp w0.tape w0.drawn) ga gl:=hCl.below hI.below
  have hCw:Sp.zai (w.tp τ 0) ga gl:=hCw0
  obtain⟨a',w',⟨v,u11',u12',u13',u14',u15',rfl,hZ,hr,hL,hF,hfr,hsz,ho⟩,hd⟩:=ziE (Post:=fun a' w'=>∃ (v u11 u12 u13 u14 u15:Value),a'=⟨#[.agg #[.int .i64 wd,.slice ga gl.length cap],u1,u2,u3,u4,u5,.agg #[.int .i64 wd,.slice (some ⟨gc,0,none⟩) gl.length gl.length],.int .i64 (M:Int),.slice (some ⟨bl,0,none⟩) M M,.slice (some ⟨bf,0,none⟩) M M,.int .i64 ((k:Int)+1),u11,u12,u13,u14,u15,u16,u17,u18,u19,u20,u21],[]⟩/\zdH w' w.heap.size 3 v (Sp.zaM wd gl (k:Int))/\(v=.slice none 0 0\/zbU v=C k)/\w'.heap[bl]?=some (.cells (arrL.setIfInBounds k (.int .i64 (Sp.zaJ wd gl (k:Int)))) 3)/\w'.heap[bf]?=some (.cells (arrF.setIfInBounds k v) 27)/\(∀ b,b<w.heap.size->b≠bl->b≠bf->w'.heap[b]?=w.heap[b]?)/\w.heap.size<=w'.heap.size/\w'.os=w.os/\w'.output=w.output) t τ 0
   (Sp.zs8 wd ga cap gl (w.tp τ 0) hCw (by omega) M k gc bl bf hkM hM arrL arrF hI.lights hI.feet hI.sizeL hI.sizeF (by omega) hca (C k) hT h3 u1 u2 u3 u4 u5 u11 u12 u13 u14 u15 u16 u17 u18 u19 u20 u21 (fun v u11 u12 u13 u14 u15 w' q1 q2 q3 q4 q5 q6 q7=>⟨rfl,v,u11,u12,u13,u14,u15,rfl,q1,q2,q3,q4,q5,q6,q7.1,q7.2.2⟩))
  have hz0':w0.heap.size<=w.heap.size:=hz0
  have hrow:∀ j,j<k->∀ b,(xs j).ownBlock=some b->b<w.heap.size:=by
   intro j hj b hb
   rcases (hI.row j hj).1 with ⟨q,_⟩|⟨g,cp,q,_,_,_,_,q6⟩
   ·rw[q] at hb;simp[Value.ownBlock] at hb
   ·rw[q] at hb
    simp[Value.ownBlock] at hb
    subst hb
    exact(gei q6).1
  have hnew:∀ b,v.ownBlock=some b->w.heap.size<=b:=fun b hb=>(hZ.ownBlock b hb).1
  have hgc:=hI.grid.lt
  have hI':ScI w0 w' wd gl M gc bl bf (k+1) C (arrL.setIfInBounds k (.int .i64 (Sp.zaJ wd gl (k:Int)))) (arrF.setIfInBounds k v) (fun j=>if j=k then v else xs j):=by
   refine⟨⟨ho.1.trans hI.below.os,rfl,ho.2.trans hI.below.output,Nat.le_trans hz0' hsz,fun b hb=>?_⟩,?_,hL,hF,by simpa using hI.sizeL,by simpa using hI.sizeF,fun j hj=>?_,fun j hj=>?_,hlt,fun j hj=>?_,fun j hj b hb=>?_,fun j j' b hj hj' hb hb'=>?_⟩
   ·exact(hfr b (by omega) (by omega) (by omega)).trans (hI.below.block b hb)
   ·obtain⟨g1,g2⟩:=hI.grid
    refine⟨g1,?_⟩
    rcases g2 with g2|⟨g,cp,cur,q1,q2,q3,q4⟩
    ·exact .inl g2
    ·have e:gc=g:=by simp only[Value.slice.injEq,Option.some.injEq,Addr.mk.injEq] at q1;exact q1.1.1
     subst e
     exact .inr ⟨gc,cp,cur,q1,q2,(hfr gc (by omega) (by omega) (by omega)).trans q3,q4⟩
   ·by_cases q:j=k
    ·subst q
     rw[Array.getElem?_setIfInBounds_self_of_lt (by rw[hI.sizeL];exact hkM)]
    ·rw[Array.getElem?_setIfInBounds_ne (Ne.symm q)]
     exact hI.atL j (by omega)
   ·by_cases q:j=k
    ·subst q
     rw[Array.getElem?_setIfInBounds_self_of_lt (by rw[hI.sizeF];exact hkM),if_pos rfl]
    ·rw[Array.getElem?_setIfInBounds_ne (Ne.symm q),if_neg q]
     exact hI.atF j (by omega)
   ·by_cases q:j=k
    ·subst q
     rw[if_pos rfl]
     exact⟨hZ.mono hz0',hr⟩
    ·rw[if_neg q]
     refine(hI.row j (by omega)).keep (fun b hb=>hfr b (hrow j (by omega) b hb) ?_ ?_)
     ·have:=hI.apart j (by omega) b hb;omega
     ·have:=hI.apart j (by omega) b hb;omega
   ·by_cases q:j=k
    ·rw[if_pos q] at hb
     have:=hnew b hb
     omega
    ·rw[if_neg q] at hb
     exact hI.apart j (by omega) b hb
   ·by_cases q:j=k
    ·by_cases q':j'=k
     ·omega
     ·rw[if_pos q] at hb
      rw[if_neg q'] at hb'
      have:=hnew b hb
      have:=hrow j' (by omega) b hb'
      omega
    ·by_cases q':j'=k
     ·rw[if_neg q] at hb
      rw[if_pos q'] at hb'
      have:=hnew b hb'
      have:=hrow j (by omega) b hb
      omega
     ·rw[if_neg q] at hb
      rw[if_neg q'] at hb'
      exact hI.once j j' b (by omega) (by omega) hb hb'
  have d2:=hd.trans (zcw.ctl (fun _ _=>stepG_inLoop))
  obtain⟨w2,aL,aF,xs2,x1,x2,x3,x4,x5,x11,x12,x13,x14,x15,x16,x17,x18,x19,x20,x21,hfin,hd2⟩:=ih (k+1) (by omega) w' _ _ _ _ _ _ _ _ _ _ _ _ _ _ _ _ _ _ _ hI' (t.desc d2)
  exact⟨w2,aL,aF,xs2,x1,x2,x3,x4,x5,x11,x12,x13,x14,x15,x16,x17,x18,x19,x20,x21,hfin,d2.trans hd2⟩
end
end
section
open Go Go.Conc Go.ConcN Go.RowKit Go.ConcR.Gen
theorem zrr{w2:World}(h:Below w.heap.size w w1)(h2:Below w1.heap.size w1 w2):Below w.heap.size w w2:=⟨h2.os.trans h.os,h2.tape.trans h.tape,h2.output.trans h.output,Nat.le_trans h.size h2.size,fun k hk=>(h2.block k (nll hk h.size)).trans (h.block k hk)⟩
theorem zpo(v:Value):#[v]++Array.replicate (22 - #[v].size) undef=#[v,undef,undef,undef,undef,undef,undef,undef,undef,undef,undef,undef,undef,undef,undef,undef,undef,undef,undef,undef,undef,undef]:=by kernel_rfl
section
variable{FinP:Frame->World->Prop}{c:Frame}{cs:List Frame}
set_option maxRecDepth 100000 in
theorem zta(hCl:Sp.zai wl ga gl)(hk:Sp.okG wd gl=true)(hn:gl.length<=25)(hl:0<gl.length)(hM:Sp.za9 wd gl=(M:Int))(hM20:M<=20)(hC:∀ k,k<M->1<=C k/\C k<=maxLen/\(Sp.zaM wd gl (k:Int)).length<=C k)(tr:zb8 SqP.prog FinP (Frame.enter SqP.prog 6 #[.agg #[.int .i64 wd,.slice ga gl.length cap]] .normal) (c::cs) wl) :
  ∃ (wl':World) (gc bl bf:Nat) (arrL arrF:Array Value) (xs:Nat->Value),ScI wl wl' wd gl M gc bl bf M C arrL arrF xs /\
   zcw SqP.prog (Frame.enter SqP.prog 6 #[.agg #[.int .i64 wd,.slice ga gl.length cap]] .normal) (c::cs) wl (c.finish (.tuple #[.agg #[.int .i64 wd,.slice (some ⟨gc,0,none⟩) gl.length gl.length,.slice (some ⟨bl,0,none⟩) M M,.slice (some ⟨bf,0,none⟩) M M],.bool true])) cs wl':=by
 rw[enter_at _ SqP.func6 SqP.body6,SqP.ntmps6,zpo] at tr ⊢
 have d0:zcw SqP.prog ((base 6).at ⟨#[.agg #[.int .i64 wd,.slice ga gl.length cap],undef,undef,undef,undef,undef,undef,undef,undef,undef,undef,undef,undef,undef,undef,undef,undef,undef,undef,undef,undef,undef],[]⟩ [.code zrR]) (c::cs) wl ((base 6).at ⟨#[.agg #[.int .i64 wd,.slice ga gl.length cap],undef,undef,undef,undef,undef,undef,undef,undef,undef,undef,undef,undef,undef,undef,undef,undef,undef,undef,undef,undef,undef],[]⟩ [.code (zkc .skip),.code zhv]) (c::cs) wl:=zcw.ctl (fun _ _=>stepG_seq)
 have t0:=tr.desc d0
 obtain⟨a1,w1,⟨u1,u2,u3,u4,u5,u6,u7,u8,u9,u10,u11,u12,u13,u14,u15,u16,u17,u18,u19,u20,u21,rfl,hb1⟩,d1⟩:=ziE (Post:=fun a' w'=>∃ u1 u2 u3 u4 u5 u6 u7 u8 u9 u10 u11 u12 u13 u14 u15 u16 u17 u18 u19 u20 u21,a'=⟨#[.agg #[.int .i64 wd,.slice ga gl.length cap],u1,u2,u3,u4,u5,u6,u7,u8,u9,u10,u11,u12,u13,u14,u15,u16,u17,u18,u19,u20,u21],[]⟩/\Below wl.heap.size wl w') t0 wl.tape wl.drawn (Sp.zrS wd ga cap gl wl hCl (by omega) (fun w' u1 u2 u3 u4 u5 u6 u7 u8 u9 u10 u11 u12 u13 u14 u15 u16 u17 u18 u19 u20 u21 hb=>wp_skip ⟨rfl,u1,u2,u3,u4,u5,u6,u7,u8,u9,u10,u11,u12,u13,u14,u15,u16,u17,u18,u19,u20,u21,rfl,hb⟩))
 have t1:=t0.desc d1
 have d2:zcw SqP.prog ((base 6).at ⟨#[.agg #[.int .i64 wd,.slice ga gl.length cap],u1,u2,u3,u4,u5,u6,u7,u8,u9,u10,u11,u12,u13,u14,u15,u16,u17,u18,u19,u20,u21],[]⟩ [.code zhv]) (c::cs) w1 ((base 6).at ⟨#[.agg #[.int .i64 wd,.slice ga gl.length cap],u1,u2,u3,u4,u5,u6,u7,u8,u9,u10,u11,u12,u13,u14,u15,u16,u17,u18,u19,u20,u21],[]⟩ [.code scG,.code (.seq (.cond (.tmp 3) .skip scN) (.seq scA (.seq (.block 1 (.loop scL)) (.seq scZ .ret))))]) (c::cs) w1:=zcw.ctl (fun _ _=>stepG_seq)
 have t2:=t1.desc d2
 have hC1:=hCl.below hb1
 obtain⟨a2,w2,⟨rfl,hb2⟩,d3⟩:=ziE (Post:=fun a' w'=>a'=⟨#[.agg #[.int .i64 wd,.slice ga gl.length cap],u1,u2,.bool true,u4,u5,u6,u7,u8,u9,u10,u11,u12,u13,u14,u15,u16,u17,u18,u19,u20,u21],[]⟩/\Below w1.heap.size w1 w') t2 w1.tape w1.drawn (Sp.zrC wd ga cap gl w1 hC1 (by omega) hk u1 u2 u3 u4 u5 u6 u7 u8 u9 u10 u11 u12 u13 u14 u15 u16 u17 u18 u19 u20 u21 (fun w' hb=>⟨rfl,rfl,hb⟩))
 have t3:=t2.desc d3
 have hB2:=zrr hb1 hb2
 have hC2:=hCl.below hB2
 have d4:zcw SqP.prog ((base 6).at ⟨#[.agg #[.int .i64 wd,.slice ga gl.length cap],u1,u2,.bool true,u4,u5,u6,u7,u8,u9,u10,u11,u12,u13,u14,u15,u16,u17,u18,u19,u20,u21],[]⟩ [.code (.seq (.cond (.tmp 3) .skip scN) (.seq scA (.seq (.block 1 (.loop scL)) (.seq scZ .ret))))]) (c::cs) w2 ((base 6).at ⟨#[.agg #[.int .i64 wd,.slice ga gl.length cap],u1,u2,.bool true,u4,u5,u6,u7,u8,u9,u10,u11,u12,u13,u14,u15,u16,u17,u18,u19,u20,u21],[]⟩ [.code scA,.code (.seq (.block 1 (.loop scL)) (.seq scZ .ret))]) (c::cs) w2:=by
  refine(zcw.ctl (fun _ _=>stepG_seq)).trans ((zcw.ctl (fr1:=(base 6).at ⟨#[.agg #[.int .i64 wd,.slice ga gl.length cap],u1,u2,.bool true,u4,u5,u6,u7,u8,u9,u10,u11,u12,u13,u14,u15,u16,u17,u18,u19,u20,u21],[]⟩ [.code .skip,.code (.seq scA (.seq (.block 1 (.loop scL)) (.seq scZ .ret)))]) (fun _ _=>stepG_cond (t:=true) rfl)).trans ((zcw.ctl (fun _ _=>stepG_skip)).trans (zcw.ctl (fun _ _=>stepG_seq))))
 have t4:=t3.desc d4
 obtain⟨a3,w3,⟨gc,bl,bf,rfl,hO,hL,hF,h1,h2,h3,hb3⟩,d5⟩:=ziE (Post:=fun a' w'=>∃ gc bl bf,a'=⟨#[.agg #[.int .i64 wd,.slice ga gl.length cap],u1,u2,.bool true,u4,u5,.agg #[.int .i64 wd,.slice (some ⟨gc,0,none⟩) gl.length gl.length],.int .i64 (M:Int),.slice (some ⟨bl,0,none⟩) M M,.slice (some ⟨bf,0,none⟩) M M,.int .i64 (0),u11,u12,u13,u14,u15,u16,u17,u18,u19,u20,u21],[]⟩/\Sp.Own w' w2.heap.size (.slice (some ⟨gc,0,none⟩) gl.length gl.length) gl/\w'.heap[bl]?=some (.cells (madeCells #[.int .i64 0] M) 3)/\w'.heap[bf]?=some (.cells (madeCells #[.slice none 0 0] M) 27)/\w2.heap.size<=gc/\gc<bl/\bl<bf/\Below w2.heap.size w2 w') t4 w2.tape w2.drawn (Sp.zrB wd ga cap gl w2 hC2 (by omega) hl M hM hM20 u1 u2 (.bool true) u4 u5 u6 u7 u8 u9 u10 u11 u12 u13 u14 u15 u16 u17 u18 u19 u20 u21 (fun gc bl bf w' q1 q2 q3 q4 q5 q6 q7=>⟨rfl,gc,bl,bf,rfl,q1,q2,q3,q4,q5,q6,q7⟩))
 have t5:=t4.desc d5
 have hz2:=hB2.size
 have hB3:=zrr hB2 hb3
 have d6:zcw SqP.prog ((base 6).at ⟨#[.agg #[.int .i64 wd,.slice ga gl.length cap],u1,u2,.bool true,u4,u5,.agg #[.int .i64 wd,.slice (some ⟨gc,0,none⟩) gl.length gl.length],.int .i64 (M:Int),.slice (some ⟨bl,0,none⟩) M M,.slice (some ⟨bf,0,none⟩) M M,.int .i64 (0),u11,u12,u13,u14,u15,u16,u17,u18,u19,u20,u21],[]⟩ [.code (.seq (.block 1 (.loop scL)) (.seq scZ .ret))]) (c::cs) w3 ((base 6).at ⟨#[.agg #[.int .i64 wd,.slice ga gl.length cap],u1,u2,.bool true,u4,u5,.agg #[.int .i64 wd,.slice (some ⟨gc,0,none⟩) gl.length gl.length],.int .i64 (M:Int),.slice (some ⟨bl,0,none⟩) M M,.slice (some ⟨bf,0,none⟩) M M,.int .i64 (((0:Nat):Int)),u11,u12,u13,u14,u15,u16,u17,u18,u19,u20,u21],[]⟩ (.code scL::.inLoop scL::.inBlock 1::[.code (.seq scZ .ret)])) (c::cs) w3 :=
  (zcw.ctl (fun _ _=>stepG_seq)).trans ((zcw.ctl (fun _ _=>stepG_block)).trans (zcw.ctl (fun _ _=>stepG_loop)))
 have t6:=t5.desc d6
 have hI:ScI wl w3 wd gl M gc bl bf 0 C (madeCells #[.int .i64 0] M) (madeCells #[.slice none 0 0] M) (fun _=>.slice none 0 0):=⟨⟨hB3.os,rfl,hB3.output,hB3.size,hB3.block⟩,hO.mono (by omega),hL,hF,by simp[madeCells],by simp[madeCells],fun j hj=>by omega,fun j hj=>by omega,⟨by omega,h2,h3⟩,fun j hj=>by omega,fun j hj=>by omega,fun j j' b hj=>by omega⟩
 obtain⟨w4,aL,aF,xs,x1,x2,x3,x4,x5,x11,x12,x13,x14,x15,x16,x17,x18,x19,x20,x21,hI4,d7⟩:=zsi hCl hn hl hM20 hC M 0 (by omega) w3 _ _ _ _ _ _ _ _ _ _ _ _ _ _ _ _ _ _ _ hI t6
 have t7:=t6.desc d7
 obtain⟨v,w5,⟨rfl,hb5⟩,d8⟩:=zq4 (Post:=fun v w'=>v=.tuple #[.agg #[.int .i64 wd,.slice (some ⟨gc,0,none⟩) gl.length gl.length,.slice (some ⟨bl,0,none⟩) M M,.slice (some ⟨bf,0,none⟩) M M],.bool true]/\Below w4.heap.size w4 w') t7 (Sp.zs9 wd ga cap gl w4 M gc bl bf x1 x2 x3 x4 x5 x11 x12 x13 x14 x15 x16 x17 x18 x19 x20 x21 (fun a' w' q1 q2 q3=>⟨rfl,_,⟨rfl,q2⟩,fun todo=>⟨rfl,q1,rfl,_,SqP.func6,q3⟩⟩))
 refine⟨w5,gc,bl,bf,aL,aF,xs,?_,((((((d0.trans d1).trans d2).trans d3).trans d4).trans d5).trans d6).trans (d7.trans d8)⟩
 have hz5:=hb5.size
 have hkeep:∀ b o,w4.heap[b]?=some o->w5.heap[b]?=some o:=fun b o q=>(hb5.block b (gei q).1).trans q
 have hz4:wl.heap.size<=w4.heap.size:=hI4.below.size
 refine⟨⟨hb5.os.trans hI4.below.os,rfl,hb5.output.trans hI4.below.output,Nat.le_trans hz4 hz5,fun b hb=>(hb5.block b (by omega)).trans (hI4.below.block b hb)⟩,hI4.grid.below hb5,hkeep _ _ hI4.lights,hkeep _ _ hI4.feet,hI4.sizeL,hI4.sizeF,hI4.atL,hI4.atF,hI4.lt,fun j hj=>(hI4.row j hj).keep (fun b hb=>?_),hI4.apart,hI4.once⟩
 rcases (hI4.row j hj).1 with ⟨q,_⟩|⟨g,cp,q,_,_,_,_,q6⟩
 ·rw[q] at hb;simp[Value.ownBlock] at hb
 ·rw[q] at hb
  simp[Value.ownBlock] at hb
  subst hb
  exact hb5.block g (gei q6).1
end
end
section
open Go Go.Conc Go.ConcN Go.RowKit Go.Conc.Lib Go.ConcR.Gen Go.ConcN.Gen
open Go.ConcR (KK wgBlock WgAt stA smA rd wr mk Payload Aside2 DC0)
section
variable{Goal:Machine->Trace->Prop}{c:Frame}{cs:List Frame}
set_option maxRecDepth 100000 in
theorem zmR{L:Program}[T:zaB L Tryz.prog][zaB L L](W:Whole L)(B:Bodies L Tryz.prog X)(hX:zjY L X)(hf3:L.funcs[18]?=some Tryz.f18)(hx3:¬ X 18)(hG:zbe Tryz.prog Goal){n:Nat}(hl0:∀ p∈l0,Kc p.1){Shun:Nat->Prop}(hp0:Hp l0 w)(hK0:∀ e,Kc e->e<w.heap.size/\¬ Shun e)(hcl:∀ w,Hp l0 w->Closed Kc w)(hga:zap (zdJ Kc) (.slice ga n cap) (.slice ga n cap))(hok:∀ w,Hp l0 w->∀ τ d,Calls L 18 #[.agg #[.int .i64 wd,.slice ga n cap]] (w.frz.tp τ d) fun e _=>e=.returned (.bool false))(hfin:∀ u:World,zce (fun e=>e<w.heap.size/\¬ Shun e) w u->zas Tryz.prog Goal Shun (fun _=>False) (G (c.finish (.tuple #[.agg #[.int .i64 0,.slice none 0 0,.slice none 0 0,.slice none 0 0],.bool false])) cs) u) :
  zas Tryz.prog Goal Shun (fun _=>False) (G (Frame.enter Tryz.prog 6 #[.agg #[.int .i64 wd,.slice ga n cap]] .normal) (c::cs)) w:=by
 have hLa:∀(w:World) (o:Obj),(fun _:World=>True) w->(fun _:World=>True) (w.alloc o):=fun _ _ h=>h
 refine zas.way hG (ch:=0) (K:=Kc) (S:=fun _=>False) (l:=l0) (lx:=[]) hp0 (fun p h=>.inl (hl0 p h)) (fun _ h=>by cases h) (fun _ h=>by cases h) (fun _ h=>h.elim) (fun c hc=>⟨(hK0 c (hc.elim id fun x=>x.elim)).1,(hK0 c (hc.elim id fun x=>x.elim)).2,fun h=>h⟩) ?_
 rw[enter_at _ Tryz.func6 rfl]
 walk_nrmf Tryz.f6
 refine zag.sq ?_
 refine zag.rg ?_
 simp only[List.size_toArray,List.length_cons,List.length_nil,Nat.reduceAdd,Nat.zero_add,List.range,List.range.loop]
 refine zag.new hLa rfl rfl (by decide) (V:=fun c=>.pointer (some ⟨c,0,none⟩)) (obj:=.cells #[.int .i64 wd,.slice ga n cap] 25) (fun w hp=>by go_simp) (fun _ w hp e he=>by simp[go_sem] at he) fun bg hK_bg hS_bg=>?_
 walk_nrm
 refine zag.new hLa rfl rfl (by decide) (V:=fun c=>.pointer (some ⟨c,0,none⟩)) (obj:=.cells #[.int .i64 0,.slice none 0 0,.slice none 0 0,.slice none 0 0] 30) (fun w hp=>by go_simp) (fun _ w hp e he=>by simp[go_sem] at he) fun bs hK_bs hS_bs=>?_
 walk_nrm
 refine zag.val rfl rfl (by decide) (v:=.bool false) (fun w hp=>by go_simp) (fun _ w hp e he=>by simp[go_sem] at he) ?_
 walk_nrm
 refine zag.re ?_
 refine zag.sq ?_
 refine zag.sq ?_
 refine zag.rg ?_
 simp only[List.size_toArray,List.length_cons,List.length_nil,Nat.reduceAdd,Nat.zero_add,List.range,List.range.loop]
 refine ldG rfl rfl (by decide) rfl rfl (mcm mcs) ?_
 walk_nrm
 have hcl1:∀ w,Hp ((bs,.cells #[.int .i64 0,.slice none 0 0,.slice none 0 0,.slice none 0 0] 30)::(bg,.cells #[.int .i64 wd,.slice ga n cap] 25)::l0) w->Closed Kc w:=fun w hp=>hcl w fun p h=>hp p (mcm (mcm h))
 refine zag.enter rfl rfl (by decide) (fun w=>run_call_body rfl Tryz.func18 rfl rfl) (fun w=>events_call_body rfl Tryz.func18 rfl rfl _) ?_
 walk_nrm
 refine zag.callv (Kc:=Kc) (Lv:=fun _=>False) W B (fun _ _ _ _=>trivial) (fun _ _ _ h=>h.elim) hX hf3 rfl hx3 (by kernel_rfl) (v0:=.bool false) (fun _ _ h=>zbF h) (fun _ h=>h) hcl1 (zax _ hga) (fun w hp=>hok w fun p h=>hp p (mcm (mcm h))) fun S1=>?_
 simp only[Frame.finish_at]
 walk_nrm
 refine zag.val rfl rfl (by decide) (v:=.bool true) (fun w hp=>by go_simp) (fun _ w hp e he=>by simp[go_sem] at he) ?_
 walk_nrm
 refine zag.re ?_
 refine zag.ctl rfl (fun _=>stepG_cond (t:=true) rfl) ?_
 simp only[↓reduceIte]
 refine zag.sq ?_
 refine zag.rg ?_
 simp only[List.size_toArray,List.length_cons,List.length_nil,Nat.reduceAdd,Nat.zero_add,List.range,List.range.loop]
 refine zag.val rfl rfl (by decide) (v:=.agg #[.int .i64 0,.slice none 0 0,.slice none 0 0,.slice none 0 0]) (fun w hp=>by go_simp) (fun _ w hp e he=>by simp[go_sem] at he) ?_
 walk_nrm
 refine zag.put (l':=[(bs,.cells #[.int .i64 0,.slice none 0 0,.slice none 0 0,.slice none 0 0] 30)]) (c:=bs) (obj:=.cells #[.int .i64 0,.slice none 0 0,.slice none 0 0,.slice none 0 0] 30) rfl rfl (by decide) (.inl (.inr rfl)) (fun _ _ _ h=>h) (fun w hp=>⟨_,zeU (ty:=30) (cells:=#[.int .i64 0,.slice none 0 0,.slice none 0 0,.slice none 0 0]) rfl rfl rfl (hp.at mcs) zdi rfl (by simp[Value.oneCell']),(zat (hp.at mcs)).1,(zat (hp.at mcs)).2⟩) (fun _ w hp e he=>?_) (fun p hp=>?_) ?_
 ·obtain⟨q,rfl⟩:=zhk (ty:=30) (cells:=#[.int .i64 0,.slice none 0 0,.slice none 0 0,.slice none 0 0]) rfl rfl rfl (hp.at mcs) zdi rfl (by simp[Value.oneCell']) e he
  exact Or.inl ⟨_,_,rfl,Or.inl (.inl (.inr rfl))⟩
 ·rcases List.mem_cons.1 hp with rfl|hp
  ·exact .inl rfl
  ·cases hp
 walk_nrm
 refine zag.val rfl rfl (by decide) (v:=.bool false) (fun w hp=>by go_simp) (fun _ w hp e he=>by simp[go_sem] at he) ?_
 walk_nrm
 refine zag.re ?_
 refine zag.ctl rfl (fun _=>stepG_ret') ?_
 refine zag.leave (v:=.tuple #[.agg #[.int .i64 0,.slice none 0 0,.slice none 0 0,.slice none 0 0],.bool false]) rfl rfl Tryz.func6 (fun w hp=>?_) (fun hl w hp e he=>?_) ?_
 ·have c0:=hp.cell mcs 0 rfl
  have c1:=hp.cell mcs 1 rfl
  have c2:=hp.cell mcs 2 rfl
  have c3:=hp.cell mcs 3 rfl
  simp[results,Tryz.results6,go_sem,c0,c1,c2,c3]
 ·have c0:=hp.cell mcs 0 rfl
  have c1:=hp.cell mcs 1 rfl
  have c2:=hp.cell mcs 2 rfl
  have c3:=hp.cell mcs 3 rfl
  simp[results,Tryz.results6,go_sem,c0,c1,c2,c3] at he
  rcases he with rfl|rfl|rfl|rfl
  all_goals exact zau hl mcs _
 refine zag.stop fun hl3 w3 hp3 _ hlt3=>?_
 intro hsz3 hnew3 hx3 hKS3 _ hkept3 ht3 ho3 hu3
 exact hfin w3 ⟨fun e he=>hkept3 e he.1 (fun h=>h),ht3,ho3,hu3,hsz3⟩
end
def zsz(wd:Int)(gl:List (Int × Int)):Nat->Value->List (Nat × Obj)->Prop:=fun k x bs =>
 (x=.slice none 0 0/\Sp.zaM wd gl (k:Int)=[]/\bs=[])\/∃ b C,x=.slice (some ⟨b,0,none⟩) (Sp.zaM wd gl (k:Int)).length C/\0<(Sp.zaM wd gl (k:Int)).length/\(Sp.zaM wd gl (k:Int)).length<=C/\C<=maxLen/\bs=[(b,.cells (zgV (Sp.zaM wd gl (k:Int)) C) 3)]
theorem zsz.slice{k:Nat}(h:zsz wd gl k x bs):∃ xa xn xc,x=.slice xa xn xc:=by
 rcases h with ⟨e,_⟩|⟨b,C,e,_⟩
 ·exact⟨_,_,_,e⟩
 ·exact⟨_,_,_,e⟩
def zrN(wd:Int)(gl:List (Int × Int)):Nat->World->Value->World->Prop:=fun k w0 v wl=>zdH wl w0.heap.size 3 v (Sp.zaM wd gl (k:Int))
theorem zjX(xs:List Int)(C:Nat):∀ i (h:i<(zgV xs C).size),∃ n,(zgV xs C)[i]=.int .i64 n:=by
 intro i h
 unfold zgV at h ⊢
 rw[Array.getElem_append]
 split
 ·rename_i h'
  simp[zed]
 ·simp
theorem zsg(k:Nat)(w0:World)(v v':Value)(R:BR)(wl w₁:World)(hp:zrN wd gl k w0 v wl)(hv:zap R v v')(hw:zbi w0.heap.size R wl w₁):∃ bs,zsz wd gl k v' bs/\Hp bs w₁/\∀ p∈bs,zbJ w0.heap.size R p.1:=by
 rcases hp with ⟨rfl,he⟩|⟨g,C,rfl,hg,h1,h2,h3,hc⟩
 ·cases hv with
  | nilSlice _ _=>exact⟨[],.inl ⟨rfl,he,rfl⟩,(fun p hp=>by cases hp),(fun p hp=>by cases hp)⟩
 ·cases hv with
  | slice _ _ had =>
   rename_i a'
   obtain⟨c,o,s⟩:=a'
   obtain⟨q1,q2,q3⟩:=had
   simp only at q1 q2 q3
   subst q2
   subst q3
   obtain⟨ob,ob',e1,e2,ho⟩:=hw.blk g c q1
   rw[hc] at e1
   cases e1
   cases ho with
   | cells hr _ hf =>
    have hf':=hf (by omega)
    subst hf'
    have e:=zkr hr.1 hr.2 (zjX _ _)
    subst e
    exact⟨_,.inr ⟨c,C,rfl,h1,h2,h3,rfl⟩,fun p hp=>by simp at hp;subst hp;exact e2,fun p hp=>by simp at hp;subst hp;exact⟨g,q1,hg⟩⟩
   | other hj _=>cases hj
def zb6(wd:Int)(gl:List (Int × Int)):World->Value->World->Prop:=fun w0 v wl=>∃ g,v=.agg #[.int .i64 wd,.slice (some ⟨g,0,none⟩) gl.length gl.length]/\w0.heap.size<=g/\wl.heap[g]?=some (.cells (Sp.flat gl).toArray 50)
def zgY(wd:Int)(gl:List (Int × Int)):Value->List (Nat × Obj)->Prop:=fun v bs=>∃ b,v=.agg #[.int .i64 wd,.slice (some ⟨b,0,none⟩) gl.length gl.length]/\bs=[(b,.cells (Sp.flat gl).toArray 50)]
theorem ziW(gl:List (Int × Int)):∀ i (h:i<(Sp.flat gl).toArray.size),∃ n,(Sp.flat gl).toArray[i]=.int .i64 n:=by
 intro i h
 have hl:=Sp.zfv gl
 simp at h
 have hi:i / 2<gl.length:=by omega
 obtain⟨h1,h2⟩:=Sp.zhW gl (i / 2) hi
 have e:i=i / 2 * 2\/i=i / 2 * 2+1:=by omega
 rcases e with e|e
 ·rw[<- e] at h1
  rw[List.getElem?_eq_getElem h] at h1
  exact⟨_,by simpa using Option.some.inj h1⟩
 ·rw[<- e] at h2
  rw[List.getElem?_eq_getElem h] at h2
  exact⟨_,by simpa using Option.some.inj h2⟩
theorem zgq{g:Nat}(h:Sp.Own w B (.slice (some ⟨g,0,none⟩) gl.length gl.length) gl):B<=g/\w.heap[g]?=some (.cells (Sp.flat gl).toArray 50):=by
 rcases h.2 with ⟨q,_⟩|⟨g',cap,cur,q,hB,hg,_,_,hs,ht⟩
 ·simp at q
 ·simp only[Value.slice.injEq,Option.some.injEq,Addr.mk.injEq,and_true,true_and] at q
  obtain⟨rfl,rfl⟩:=q
  refine⟨hB,?_⟩
  rw[hg]
  have e:cur.toList=Sp.flat gl:=by
   rw[<- ht,List.take_of_length_le (by simp[hs])]
  rw[<- e]
theorem zpU(w0:World)(v v':Value)(R:BR)(wl w₁:World)(hp:zb6 wd gl w0 v wl)(hv:zap R v v')(hw:zbi w0.heap.size R wl w₁):∃ bs,zgY wd gl v' bs/\Hp bs w₁/\∀ p∈bs,zbJ w0.heap.size R p.1:=by
 obtain⟨g,rfl,hg,hc⟩:=hp
 cases hv with
 | agg h1 h2 =>
  rename_i cc'
  have hs:cc'.size=2:=by rw[<- h1];rfl
  have q0:=h2 0 (by simp) (by omega)
  have q1:=h2 1 (by simp) (by omega)
  have e0:=zcq q0
  obtain⟨b,e1,hb⟩:∃ b,cc'[1]'(by omega)=.slice (some ⟨b,0,none⟩) gl.length gl.length/\R g b:=by
   have q1':zap R (.slice (some ⟨g,0,none⟩) gl.length gl.length) (cc'[1]'(by omega)):=q1
   revert q1'
   generalize cc'[1]'(by omega)=z
   intro q1'
   cases q1' with
   | slice _ _ had =>
    rename_i a'
    obtain⟨c,o,s⟩:=a'
    obtain⟨r1,r2,r3⟩:=had
    simp only at r1 r2 r3
    subst r2
    subst r3
    exact⟨c,rfl,r1⟩
  obtain⟨ob,ob',f1,f2,ho⟩:=hw.blk g b hb
  rw[hc] at f1
  cases f1
  cases ho with
  | cells hr _ hf =>
   have hf':=hf (by omega)
   subst hf'
   have e:=zkr hr.1 hr.2 (ziW _)
   subst e
   refine⟨_,⟨b,congrArg Value.agg (Array.ext (by simp[hs]) fun i hi1 hi2=>?_),rfl⟩,fun p hp=>by simp at hp;subst hp;exact f2,fun p hp=>by simp at hp;subst hp;exact⟨g,hb,hg⟩⟩
   have:i=0\/i=1:=by simp at hi2;omega
   rcases this with rfl|rfl
   ·exact e0
   ·exact e1
  | other hj _=>cases hj
section
variable{Goal:Machine->Trace->Prop}{Shun:Nat->Prop}{c:Frame}{cs:List Frame}
set_option maxRecDepth 100000 in
theorem zp3(hG:zbe Tryz.prog Goal){W H:Nat}(hok:Sp.okG (W:Int) gs=true)(hW:1<=W/\W<=5)(hH:1<=H/\H<=5)(el:gs.length=W * H)(hHd:gs.length / W=H)(hHI:(gs.length:Int) / (W:Int)=(H:Int))(hl0:∀ p∈l0,Kc p.1)(hcl:∀ w,Hp l0 w->Closed Kc w)(hKl:∀ c,Kc c->∃ p∈l0,p.1=c)(hga:zap (zdJ Kc) (.slice ga gs.length cap) (.slice ga gs.length cap))(hC:∀ w,Hp l0 w->∀ τ d,Sp.zai (w.frz.tp τ d) ga gs)(w:World)(hp0:Hp l0 w)(hKc:∀ c,Kc c->c<w.heap.size/\¬ Shun c)(hfin:∀(u:World) (bo:Nat) (xs:Nat->Value) (bsf:Nat->List (Nat × Obj)),zce (fun e=>e<w.heap.size/\¬ Shun e) w u->w.heap.size<=bo->u.heap[bo]?=some (.cells (Array.ofFn fun k:Fin (2 * (W+H))=>xs k) 27) ->
   (∀ k,k<2 * (W+H)->zsz (W:Int) gs k (xs k) (bsf k)/\Hp (bsf k) u/\∀ p∈bsf k,w.heap.size<=p.1/\p.1≠bo)->(∀ k k' p p',k<2 * (W+H)->k'<2 * (W+H)->p∈bsf k->p'∈bsf k'->p.1=p'.1->k=k') ->
   ∀ Shun':Nat->Prop,(∀ e,Shun' e->Shun e\/w.heap.size<=e)->¬ Shun' bo->(∀ k,k<2 * (W+H)->∀ p∈bsf k,¬ Shun' p.1)->zas Tryz.prog Goal Shun' (fun _=>False) (G (c.finish (.slice (some ⟨bo,0,none⟩) (2 * (W+H)) (2 * (W+H)))) cs) u) :
  zas Tryz.prog Goal Shun (fun _=>False) (G (Frame.enter Tryz.prog 21 #[.agg #[.int .i64 (W:Int),.slice ga gs.length cap],.func (.func 22) #[] #[]] .normal) (c::cs)) w:=by
 haveI:Payload:=⟨0⟩
 obtain⟨W1,W5⟩:=hW
 obtain⟨H1,H5⟩:=hH
 have hn25:gs.length<=25:=by rw[el];exact Nat.le_trans (Nat.mul_le_mul W5 H5) (by omega)
 have hM:Sp.za9 (W:Int) gs=((2 * (W+H):Nat):Int):=by rw[Sp.zbB hok hHI];omega
 have hside:Sp.zbV (W:Int) (H:Int) (gs.length:Int)=#[.int .i64 ((sF W H 0:Nat):Int),.int .i64 (W:Int),.int .i64 0,.int .i64 1,.int .i64 2,.int .i64 0,.int .i64 ((sF W H 1:Nat):Int),.int .i64 (H:Int),.int .i64 ((W:Int) - 1),.int .i64 (W:Int),.int .i64 3,.int .i64 1,.int .i64 ((sF W H 2:Nat):Int),.int .i64 (W:Int),.int .i64 ((gs.length:Int) - 1),.int .i64 (-1),.int .i64 0,.int .i64 2,.int .i64 ((sF W H 3:Nat):Int),.int .i64 (H:Int),.int .i64 ((gs.length:Int) - 1 - (W:Int)+1),.int .i64 (-(W:Int)),.int .i64 1,.int .i64 3]:=by
  simp[Sp.zbV,sF]
 have hhas:∀(f m s o i u:Int),0<=f/\f<=100->0<=m/\m<=100->∀(k:Nat) (w:World),Calls SqN.prog 71 #[.agg #[.int .i64 f,.int .i64 m,.int .i64 s,.int .i64 o,.int .i64 i,.int .i64 u],.int .i64 k] w fun e _=>e=.returned (.bool (decide (f<=k/\(k:Int)<f+m))) :=
  fun f m s o i u h1 h2 k w=>(Sp.zeM f m s o i u k h1 h2 _ rfl w).mono fun e w' h=>h.1
 refine R2.zkN (L:=SqN.prog) (X:=fun _=>false=true) (f0:=sF W H) (e0:=sE W H) (Post:=zrN (W:Int) gs) (RowP:=zsz (W:Int) gs) (many:=2 * (W+H)) hG SqN.whole SqN.bodies (fun _ h=>by cases h) SqN.func18 (fun h=>by cases h) SqN.func29 (fun h=>by cases h) SqN.func41 (fun h=>by cases h) hl0 hcl hga
  (fun w hp τ d=>((Sp.zao (W:Int) ga cap gs _ (hC w hp τ d) (by omega)).mono fun e w' h=>by rw[h.1,hok]))
  (fun w hp τ d=>((Sp.zbs (W:Int) ga cap gs _ (hC w hp τ d) (by omega)).mono fun e w' h=>by rw[h.1,hM]))
  (fun w hp τ d=>((Sp.zca W H ga gs.length cap _ ⟨W1,W5⟩ ⟨H1,H5⟩ hn25 hHd).mono fun e w' h=>by rw[h.1,hside]))
  SqN.func71 (fun h=>by cases h) SqN.func22 Tryz.func22 rfl rfl (fun h=>by cases h) (by kernel_rfl) ?_ ?_ hKl ?_ ?_ ?_ ?_ ?_ ?_ ?_ ?_ ?_ ?_ ?_ ?_ ?_
  (fun k hk w hp τ d=>((Sp.zeN (W:Int) ga cap gs _ (hC w hp τ d) (by omega) (k:Int)).mono fun e w' ⟨v,h1,h2,_,_⟩=>⟨_,h1,(by have h3:=h2;rw[show (w.frz.tp τ d).heap.size=w.heap.size from zd5 w] at h3;exact h3:zrN (W:Int) gs k w v w')⟩)) (fun _ _ _ _ _ _ h=>h) zsg (fun k x bs h=>h.slice) ?_ (by omega) w hp0 hKc hfin
 ·exact zjH W H
 ·simp[sumTo,sF,sE];omega
 ·simp[sF,sE]
 ·omega
 ·exact hhas _ _ _ _ _ _ (by simp[sF]) (by omega)
 ·simp[sF,sE]
 ·omega
 ·exact hhas _ _ _ _ _ _ (by simp[sF];omega) (by omega)
 ·simp[sF,sE]
 ·omega
 ·exact hhas _ _ _ _ _ _ (by simp[sF];omega) (by omega)
 ·simp[sF,sE]
 ·omega
 ·exact hhas _ _ _ _ _ _ (by simp[sF];omega) (by omega)
 ·intro j hj
  unfold sE
  split <;> try omega
  split <;> try omega
  split <;> omega
 ·intro k hk
  by_cases h1:k<W
  ·exact⟨0,by omega,by simp[sF],by simp[sE];omega⟩
  ·by_cases h2:k<W+H
   ·exact⟨1,by omega,by simp[sF];omega,by simp[sE];omega⟩
   ·by_cases h3:k<W+H+W
    ·exact⟨2,by omega,by simp[sF];omega,by simp[sE];omega⟩
    ·exact⟨3,by omega,by simp[sF];omega,by simp[sE];omega⟩
end
set_option maxRecDepth 100000 in
theorem zqI{FinP:Frame->World->Prop}{c:Frame}{cs:List Frame}{N:Nat}{R:BR}{v v':Value}(hw:zbi N R (wl.tp w.tape w.drawn) w)(hv:zap R v v')(tr:zb8 SqP.prog FinP (Frame.enter SqP.prog 6 #[v] .normal) (c::cs) wl) :
  ∃ wd ga ga' m gl,v=.agg #[.int .i64 wd,.slice ga (List.length gl) m]/\v'=.agg #[.int .i64 wd,.slice ga' gl.length m]/\gl.length<4611686018427387904/\Sp.zai wl ga gl/\zap R (.slice ga gl.length m) (.slice ga' gl.length m):=by
 rw[enter_at _ SqP.func6 SqP.body6,SqP.ntmps6,zpo] at tr
 have tr1:zb8 (@Sq.prog Sq.P) FinP ((base 6).at ⟨#[v,undef,undef,undef,undef,undef,undef,undef,undef,undef,undef,undef,undef,undef,undef,undef,undef,undef,undef,undef,undef,undef],[]⟩ [.code (zkc .skip),.code zhv]) (c::cs) wl:=tr.ctl (fun _ _=>stepG_seq)
 have hrel:∀ n m ad,v.cells[1]?=some (.slice (some ad) n m)->∃ o,wl.heap[ad.block]?=some o/\∀ x y,o≠.view x y:=by
  intro n m ad hx
  have key:∀ u u',zap R u u'->u=.slice (some ad) n m->∃ o,wl.heap[ad.block]?=some o/\∀ x y,o≠.view x y:=by
   intro u u' hu e
   subst e
   cases hu with
   | slice _ _ had =>
    obtain⟨o,o',e1,_,ho⟩:=hw.blk _ _ had.1
    refine⟨o,e1,fun x y e=>?_⟩
    subst e
    cases ho with
    | other hj _=>cases hj
  cases hv with
  | agg h1 h2 =>
   rename_i cc cc'
   have hx':cc[1]?=some (.slice (some ad) n m):=hx
   obtain⟨hl,e⟩:=gei hx'
   exact key _ _ (h2 1 hl (by rw[<- h1];exact hl)) e
  | _=>simp[Value.cells] at hx
 obtain⟨wd,ga,n,m,rfl,hn62,hcells⟩:=@znG Sq.P _ _ _ _ _ _ _ Sq.wholeP hrel tr1
 obtain⟨ga',rfl,hgr⟩:∃ ga',v'=.agg #[.int .i64 wd,.slice ga' n m]/\zap R (.slice ga n m) (.slice ga' n m):=by
  cases hv with
  | agg h1 h2 =>
   rename_i cc'
   have hs:cc'.size=2:=by rw[<- h1];rfl
   have q0:=h2 0 (by simp) (by omega)
   have q1:=h2 1 (by simp) (by omega)
   have e0:=zcq q0
   have e1:∃ ga',cc'[1]'(by omega)=.slice ga' n m:=by
    have q1':zap R (.slice ga n m) (cc'[1]'(by omega)):=q1
    revert q1'
    generalize cc'[1]'(by omega)=z
    intro q1'
    cases q1' with
    | slice _ _ _=>exact⟨_,rfl⟩
    | nilSlice _ _=>exact⟨_,rfl⟩
   obtain⟨ga',e1⟩:=e1
   refine⟨ga',congrArg Value.agg (Array.ext (by simp[hs]) fun i hi1 hi2=>?_),by rw[<- e1];exact q1⟩
   have:i=0\/i=1:=by simp at hi2;omega
   rcases this with rfl|rfl
   ·exact e0
   ·exact e1
 obtain⟨gl,hgl,hCl⟩:=zmg hcells
 subst hgl
 exact⟨wd,ga,ga',m,gl,rfl,rfl,hn62,hCl,hgr⟩
