/- Part. -/
import Derived.Laws.OwnMore
import Derived.Test.YthfhphdofgkjhaaGreatLBg
set_option maxHeartbeats 2000000
set_option linter.unusedVariables false
namespace Go.Proofs.YthfhphdofgkjhaaGreat
variable{ok:Bool}{r:Ending}{wd:Int}{cs:List (Int × Int)}{F:List (List Int)}{L:List Int}{B M N b c gc hi:Nat}{l:Nat->Int}{cp n:Nat->Nat}{f:Nat->Nat->Int}{ad:Nat->Option Addr}{S:Nat->Prop}{xs:Nat->Value}{a fa ga la:Option Addr}{w w':World}
namespace Sp
open Go.RowKit
attribute [local go_sem ↓] Go.wp_at_zero Go.wp_at_succ
theorem zjq(o o2:Obj)(w:World):zcN w ((w.alloc o).alloc o2) [(w.heap.size+1,o2),(w.heap.size,o)]:=by
 have h1:zcN w w []:=⟨Below.refl _ _,(fun _ h=>nomatch h),List.nodup_nil⟩
 have h2:=(h1.made o).made o2
 have e:(w.alloc o).heap.size=w.heap.size+1:=Array.size_push _
 rw[e] at h2
 exact h2
theorem zcH.trans{w1 w2:World}(h:zcH S w w1)(h2:zcH S w1 w2):zcH S w w2:=⟨h2.os.trans h.os,h2.tape.trans h.tape,h2.output.trans h.output,Nat.le_trans h.size h2.size,fun k hk hn=>(h2.block k (nll hk h.size) hn).trans (h.block k hk hn)⟩
theorem zcH.of(h:Below w.heap.size w w'):zcH S w w':=⟨h.os,h.tape,h.output,h.size,fun k hk _=>h.block k hk⟩
theorem zo9{v:Value}(h:Own w B v cs)(ho:zcH S w w')(hn:∀ b,v.ownBlock=some b->¬ S b):Own w' B v cs:=by
 obtain⟨h1,h2⟩:=h
 refine⟨h1,?_⟩
 rcases h2 with h2|⟨g,cp,cur,q1,q2,q3,q4⟩
 ·exact .inl h2
 ·exact .inr ⟨g,cp,cur,q1,q2,(ho.block g (gei q3).1 (hn g (by rw[q1];rfl))).trans q3,q4⟩
def zcp(a:Option Addr)(e:Nat):Prop:=∃ x,a=some x/\e=x.block
theorem zkf{n:Nat}(h:(Value.slice a n c).ownBlock=some b):zcp a b:=by
 rcases a with _|x
 ·exact absurd h (by simp[Value.ownBlock])
 ·simp only[Value.ownBlock,Option.some.injEq] at h
  exact⟨x,rfl,h.symm⟩
structure zhD(sz:Nat)(ga la fa:Option Addr)(M:Nat)(ad:Nat->Option Addr):Prop where
 gl:∀ e,zcp ga e->¬ zcp la e
 gf:∀ e,zcp ga e->¬ zcp fa e
 gr:∀ e,zcp ga e->¬ zet M ad e
 lf:∀ e,zcp la e->¬ zcp fa e
 lr:∀ e,zcp la e->¬ zet M ad e
 lt:∀ e,zcp ga e\/zcp la e\/zet M ad e->e<sz
end Sp
namespace Sp
open Go.RowKit
def zq5:Value->Option Addr
 | .slice a _ _=>a
 | _=>none
def zrP(w:World)(wd:Int)(cs:List (Int × Int))(M:Nat)(l:Nat->Int)(n:Nat->Nat)(f:Nat->Nat->Int)(ok:Bool)(r:Ending)(w':World):Prop :=
 ∃ ga la fa gc lc fc ad cp,r=.returned (.tuple #[.agg #[.int .i64 wd,.slice ga cs.length gc,.slice la M lc,.slice fa M fc],.bool ok])/\Own w' w.heap.size (.slice ga cs.length gc) cs/\RI w' la (M * 1) l/\zdE w' w.heap.size w'.heap.size fa M ad n cp f/\zhD w'.heap.size ga la fa M ad/\(∀ e,zcp ga e\/zcp la e\/zcp fa e\/zet M ad e->w.heap.size<=e)/\Below w.heap.size w w'
theorem zaR{e:Nat}(h:zcp (some ⟨b,0,none⟩) e):e=b:=by
 obtain⟨x,h1,h2⟩:=h
 cases h1
 exact h2
theorem zpZ(hr:r=.returned (.tuple #[.agg #[.int .i64 0,.slice none 0 0,.slice none 0 0,.slice none 0 0],.bool false]))(hb:Below w.heap.size w w'):zrP w 0 [] 0 l n f false r w':=by
 have h0:∀ e,¬ zcp none e:=fun e ⟨x,h,_⟩=>by cases h
 have h1:∀ e,¬ zet 0 (fun _=>none) e:=fun e ⟨k,x,h,_⟩=>by omega
 exact⟨none,none,none,0,0,0,fun _=>none,fun _=>0,hr,⟨rfl,.inl ⟨rfl,rfl⟩⟩,.inl rfl,.inl rfl,⟨fun e h=>absurd h (h0 e),fun e h=>absurd h (h0 e),fun e h=>absurd h (h0 e),fun e h=>absurd h (h0 e),fun e h=>absurd h (h0 e),fun e h=>by rcases h with h|h|h;exact absurd h (h0 e);exact absurd h (h0 e);exact absurd h (h1 e)⟩,fun e h=>by rcases h with h|h|h|h;exact absurd h (h0 e);exact absurd h (h0 e);exact absurd h (h0 e);exact absurd h (h1 e),hb⟩
theorem zl7{bl bf:Nat}{arrL arrF:Array Value}(h:ScS w w' wd cs M gc c bl bf M arrL arrF xs)(hr:r=.returned (.tuple #[.agg #[.int .i64 wd,.slice (some ⟨gc,0,none⟩) cs.length c,.slice (some ⟨bl,0,none⟩) M M,.slice (some ⟨bf,0,none⟩) M M],.bool true])) :
  zrP w wd cs M (fun j=>zaW wd cs (j:Int)) (fun j=>(zaH wd cs (j:Int)).length) (fun j i=>(zaH wd cs (j:Int)).getD i 0) true r w':=by
 have hx:∀ j,j<M->xs j=.slice (zq5 (xs j)) (zaH wd cs (j:Int)).length (zbL (xs j))/\RI w' (zq5 (xs j)) ((zaH wd cs (j:Int)).length * 1) (fun i=>(zaH wd cs (j:Int)).getD i 0)/\∀ x,zq5 (xs j)=some x->(xs j).ownBlock=some x.block:=fun j hj=>by
  obtain⟨a,c,h1,h2,h3⟩:=znm (h.row j hj)
  rw[h1] at h3 ⊢
  exact⟨rfl,h2,h3⟩
 have hblk:∀ j x,j<M->zq5 (xs j)=some x->(w.heap.size<=x.block/\x.block<w'.heap.size)/\(x.block≠gc/\x.block≠bl/\x.block≠bf):=fun j x hj q=>⟨World.ownsRow.lt (h.row j hj) x.block ((hx j hj).2.2 x q),h.apart j hj x.block ((hx j hj).2.2 x q)⟩
 have hrow:∀ e,zet M (fun j=>zq5 (xs j)) e->(w.heap.size<=e/\e<w'.heap.size)/\(e≠gc/\e≠bl/\e≠bf):=fun e ⟨k,x,q1,q2,q3⟩=>by rw[q3];exact hblk k x q1 q2
 have hlt:=h.lt
 have hgl:=(World.ownsRow.lt h.grid gc rfl).2
 have hbl:=(gei h.lights).1
 have hbf:=(gei h.feet).1
 refine⟨some ⟨gc,0,none⟩,some ⟨bl,0,none⟩,some ⟨bf,0,none⟩,c,M,M,fun j=>zq5 (xs j),fun j=>zbL (xs j),hr,h.grid,.inr ⟨bl,rfl,hbl,fun j hj=>⟨?_,frozen_of_row _ _ j _ _ h.lights⟩⟩,.inr ⟨bf,rfl,⟨hlt.1.2.2,hbf⟩,fun k hk=>?_,fun k hk=>(hx k hk).2.1,fun k x hk q=>⟨(hblk k x hk q).1,(hblk k x hk q).2.2.2⟩,fun k k' x x' hk hk' q q' e=>?_,Nat.le_refl _⟩,⟨?_,?_,?_,?_,?_,?_⟩,?_,h.below⟩
 ·rw[cell_of_row _ _ j _ _ _ h.lights,h.atL j (by omega)]
 ·rw[cell_of_row _ _ k _ _ _ h.feet,h.atF k hk]
  exact congrArg some (hx k hk).1
 ·have q1:=(hx k hk).2.2 x q
  have q2:=(hx k' hk').2.2 x' q'
  rw[<- e] at q2
  exact h.inj k k' x.block hk hk' q1 q2
 ·intro e q q'
  have:=zaR q;have:=zaR q';omega
 ·intro e q q'
  have:=zaR q;have:=zaR q';omega
 ·intro e q q'
  have:=zaR q;have:=(hrow e q').2.1;omega
 ·intro e q q'
  have:=zaR q;have:=zaR q';omega
 ·intro e q q'
  have:=zaR q;have:=(hrow e q').2.2.1;omega
 ·rintro e (q|q|q)
  ·have:=zaR q;omega
  ·have:=zaR q;omega
  ·exact(hrow e q).1.2
 ·rintro e (q|q|q|q)
  ·have:=zaR q;omega
  ·have:=zaR q;omega
  ·have:=zaR q;omega
  ·exact(hrow e q).1.1
end Sp
namespace Sp
open Go.RowKit
attribute [local go_sem ↓] Go.wp_at_zero Go.wp_at_succ
theorem zhk(h:Own w B (.slice a N c) cs):zai w a cs:=by
 obtain⟨a2,c2,e,hC⟩:=h.slice
 simp only[Value.slice.injEq] at e
 obtain⟨rfl,_,rfl⟩:=e
 exact hC
structure Sn(w:World)(B hi N:Nat)(cs:List (Int × Int))(M:Nat)(l:Nat->Int)(n:Nat->Nat)(f:Nat->Nat->Int)(ga la fa:Option Addr)(gc:Nat)(ad:Nat->Option Addr)(cp:Nat->Nat):Prop where
 own:Own w B (.slice ga N gc) cs
 li:RI w la (M * 1) l
 feet:zdE w B hi fa M ad n cp f
 ap:zhD hi ga la fa M ad
 lo:∀ e,zcp ga e\/zcp la e\/zcp fa e\/zet M ad e->B<=e
 top:hi<=w.heap.size
theorem Sn.off(h:Sn w B hi N cs M l n f ga la fa gc ad cp)(ho:zcH S w w')(hS:∀ e,B<=e->e<hi->¬ S e):Sn w' B hi N cs M l n f ga la fa gc ad cp :=
 ⟨zo9 h.own ho (fun b hb=>hS b (h.lo b (.inl (zkf hb))) (h.ap.lt b (.inl (zkf hb)))),h.li.offN ho (fun x e=>hS _ (h.lo _ (.inr (.inl ⟨x,e,rfl⟩))) (h.ap.lt _ (.inr (.inl ⟨x,e,rfl⟩)))),h.feet.off ho hS,h.ap,h.lo,Nat.le_trans h.top ho.size⟩
theorem Sn.below(h:Sn w B hi N cs M l n f ga la fa gc ad cp)(hb:Below w.heap.size w w'):Sn w' B hi N cs M l n f ga la fa gc ad cp :=
 h.off (S:=fun _=>False) (zcH.of hb) (fun _ _ _=>id)
theorem zhD.mono{sz sz':Nat}(h:zhD sz ga la fa M ad)(hz:sz<=sz'):zhD sz' ga la fa M ad :=
 ⟨h.gl,h.gf,h.gr,h.lf,h.lr,fun e q=>nll (h.lt e q) hz⟩
def zpU(w:World)(wd:Int)(N:Nat)(cs:List (Int × Int))(M:Nat)(l:Nat->Int)(n:Nat->Nat)(f:Nat->Nat->Int)(ok:Bool)(r:Ending)(w':World):Prop :=
 ∃ ga la fa gc lc fc ad cp,r=.returned (.tuple #[.agg #[.int .i64 wd,.slice ga N gc,.slice la M lc,.slice fa M fc],.bool ok])/\Sn w' w.heap.size w'.heap.size N cs M l n f ga la fa gc ad cp/\Below w.heap.size w w'
theorem zgZ(h:zrP w wd cs M l n f ok r w')(hN:cs.length=N):zpU w wd N cs M l n f ok r w':=by
 subst hN
 obtain⟨ga,la,fa,gc,lc,fc,ad,cp,h1,h2,h3,h4,h5,h6,h7⟩:=h
 exact⟨ga,la,fa,gc,lc,fc,ad,cp,h1,⟨h2,h3,h4,h5,h6,Nat.le_refl _⟩,h7⟩
theorem za5(o:Obj)(w:World):(w.alloc o).heap[w.heap.size]?=some o/\Below w.heap.size w (w.alloc o):=by
 refine⟨?_,bel⟩
 show (w.heap.push o)[w.heap.size]?=some o
 simp
theorem zhm{n:Nat}{f:Nat->Int}(h:RI w a (n * 1) f):ziT w a ((List.range n).map f):=by
 rcases Nat.eq_zero_or_pos n with rfl|hp
 ·exact .inl rfl
 ·obtain⟨g,rfl,hl,hc⟩:=h.at (by omega)
  refine .inr ⟨g,0,rfl,hl,fun i hi=>?_⟩
  have hi':i<n:=by simpa using hi
  rw[Nat.zero_add,(hc i (by omega)).1]
  simp[hi']
theorem zgE{lo:Nat}(h:zdE w lo hi a M ad n cp f):zkP w a ((List.range M).map fun k=>(List.range (n k)).map (f k)):=by
 rcases h with rfl|⟨b,rfl,h⟩
 ·exact .inl rfl
 ·refine .inr ⟨b,0,rfl,nll h.out.2 h.top,fun k hk=>?_⟩
  have hk':k<M:=by simpa using hk
  have e:((List.range M).map fun k=>(List.range (n k)).map (f k)).getD k []=(List.range (n k)).map (f k):=by simp[hk']
  rw[e]
  refine⟨ad k,cp k,?_,zhm (h.row k hk')⟩
  rw[Nat.zero_add,h.cell k hk']
  simp
def zr8(w:World)(wd:Int)(N M:Nat)(L:List Int)(F:List (List Int))(ok:Bool)(r:Ending)(w':World):Prop :=
 ∃ ga la fa gc lc fc,r=.returned (.tuple #[.agg #[.int .i64 wd,.slice ga N gc,.slice la M lc,.slice fa M fc],.bool ok])/\ziT w' la L/\zkP w' fa F/\Below w.heap.size w w'
set_option maxRecDepth 100000 in
theorem zfC(wd:Int)(g l f:Option Addr)(gc lc fc:Nat)(cs:List (Int × Int))(ls:List Int)(fs:List (List Int))(w:World)(hg:zai w g cs)(hl:ziT w l ls)(hf:zkP w f fs)(hS:zrd cs ls fs){wd':Int}{N':Nat}(hL:L.length=M)(hF:F.length=M)(hM:M<=20)(hx:∀ k,k<F.length->(F.getD k []).length<=1048576)(hC:∀(a:Option Addr) (cap:Nat) (w:World),zai w a cs->Calls SqP.prog 8 #[.agg #[.int .i64 wd,.slice a cs.length cap]] w (zr8 w wd' N' M L F ok)) :
  Calls SqP.prog 30 #[.agg #[.int .i64 wd,.slice g cs.length gc,.slice l ls.length lc,.slice f fs.length fc]] w fun e w'=>e=.returned (.bool (ok && decide (ls=L) && decide (fs=F)))/\Below w.heap.size w w':=by
 obtain⟨w2,hw2⟩:∃ w2,w2=w.alloc (.cells #[.int .i64 wd,.slice g cs.length gc,.slice l ls.length lc,.slice f fs.length fc] 30):=⟨_,rfl⟩
 obtain⟨x1,hb2⟩:=za5 (.cells #[.int .i64 wd,.slice g cs.length gc,.slice l ls.length lc,.slice f fs.length fc] 30) w
 rw[<- hw2] at x1 hb2
 have H2:Hid (Below w.heap.size w w2):=hb2
 have X2:Hid (w2.heap[w.heap.size]?=some (.cells #[.int .i64 wd,.slice g cs.length gc,.slice l ls.length lc,.slice f fs.length fc] 30)):=x1
 have hN1:=hC g gc w2 (hg.below hb2)
 have HI:Hid ((ziT w l ls/\zkP w f fs)/\zrd cs ls fs):=⟨⟨hl,hf⟩,hS⟩
 obtain⟨N,hN⟩:∃ N,cs.length=N:=⟨_,rfl⟩
 obtain⟨P,hP⟩:∃ P,ls.length=P:=⟨_,rfl⟩
 obtain⟨R,hR⟩:∃ R,fs.length=R:=⟨_,rfl⟩
 have HN:Hid ((ls.length=P/\fs.length=R)/\L.length=M/\F.length=M):=⟨⟨hP,hR⟩,hL,hF⟩
 have HX:Hid (∀ k,k<F.length->(F.getD k []).length<=1048576):=hx
 rw[hN] at hN1
 rw[hN,hP,hR] at X2 hw2 ⊢
 clear hC hg hl hf hS x1 hb2 hN hP hR hL hF hx
 go_enter SqP.func30,Tryz.ntmps30
 go_upto_region 1 with fail
 rw[<- hw2]
 clear hw2
 obtain⟨c0,c1,c2,c3⟩:=zmS X2.out
 go_wp2_with fail
 refine hN1.mono ?_
 rintro e w3 ⟨ga',la',fa',gc',lc',fc',rfl,hR1,hR2,hb3⟩
 have H3:Hid (Below w.heap.size w w3):=zak H2.out H2.out.size hb3
 have hb4:Below w3.heap.size w3 (w3.alloc (.cells #[.int .i64 wd',.slice ga' N' gc',.slice la' M lc',.slice fa' M fc'] 30)):=bel
 have X4:Hid ((w3.alloc (.cells #[.int .i64 wd',.slice ga' N' gc',.slice la' M lc',.slice fa' M fc'] 30)).heap[w.heap.size]?=some (.cells #[.int .i64 wd,.slice g N gc,.slice l P lc,.slice f R fc] 30)/\(w3.alloc (.cells #[.int .i64 wd',.slice ga' N' gc',.slice la' M lc',.slice fa' M fc'] 30)).heap[w3.heap.size]?=some (.cells #[.int .i64 wd',.slice ga' N' gc',.slice la' M lc',.slice fa' M fc'] 30)):=⟨(hb4.block _ (gei ((hb3.block _ (gei X2.out).1).trans X2.out)).1).trans ((hb3.block _ (gei X2.out).1).trans X2.out),(za5 _ w3).1⟩
 have H4:Hid (Below w.heap.size w (w3.alloc (.cells #[.int .i64 wd',.slice ga' N' gc',.slice la' M lc',.slice fa' M fc'] 30))):=zak H3.out H3.out.size hb4
 have HR:Hid (ziT (w3.alloc (.cells #[.int .i64 wd',.slice ga' N' gc',.slice la' M lc',.slice fa' M fc'] 30)) la' L/\zkP (w3.alloc (.cells #[.int .i64 wd',.slice ga' N' gc',.slice la' M lc',.slice fa' M fc'] 30)) fa' F):=⟨hR1.below hb4,hR2.below hb4⟩
 clear c0 c1 c2 c3 hR1 hR2 hb3 hb4 hN1 X2 H2 H3
 go_upto_region 2 with fail
 obtain⟨w4,hw4⟩:∃ w4,w4=w3.alloc (.cells #[.int .i64 wd',.slice ga' N' gc',.slice la' M lc',.slice fa' M fc'] 30):=⟨_,rfl⟩
 rw[<- hw4] at X4 H4 HR ⊢
 clear hw4
 obtain⟨c0,c1,c2,c3⟩:=zmS X4.out.1
 obtain⟨d0,d1,d2,d3⟩:=zmS X4.out.2
 have hE:=zkE l la' lc lc' ls L w4 (HI.out.1.1.below H4.out) HR.out.1 (by have:=HI.out.2.2.1;omega)
 rw[HN.out.1.1,HN.out.2.1] at hE
 have hF:∀ w5,Below w4.heap.size w4 w5->Calls SqP.prog 55 #[.slice f R fc,.slice fa' M fc',.func (.func 54) #[] #[]] w5 fun e w'=>e=.returned (.bool (decide (fs=F)))/\Below w5.heap.size w5 w':=fun w5 hb=>by
  have:=znx f fa' fc fc' fs F w5 ((HI.out.1.2.below H4.out).below hb) (HR.out.2.below hb) (by have:=HI.out.2.2.2.1;omega) (fun k hk=>by have:=HI.out.2.2.2.2 k hk;omega)
  rw[HN.out.1.2,HN.out.2.2] at this
  exact this
 have HF:Hid (∀ w5,Below w4.heap.size w4 w5->Calls SqP.prog 55 #[.slice f R fc,.slice fa' M fc',.func (.func 54) #[] #[]] w5 fun e w'=>e=.returned (.bool (decide (fs=F)))/\Below w5.heap.size w5 w'):=hF
 have HE:Hid (Calls SqP.prog 54 #[.slice l P lc,.slice la' M lc'] w4 fun e w'=>e=.returned (.bool (decide (ls=L)))/\Below w4.heap.size w4 w'):=hE
 clear hE hF HI HN HX HR X4
 rcases ok with _|_
 ·clear HE HF c0 c1 c2 c3 d0 d1 d2 d3
  go_wp2_with fail
  go_ret
  exact⟨by simp,H4.out⟩
 ·obtain⟨b1,eb1⟩:∃ b1,decide (ls=L)=b1:=⟨_,rfl⟩
  obtain⟨b2,eb2⟩:∃ b2,decide (fs=F)=b2:=⟨_,rfl⟩
  rw[eb1] at HE
  rw[eb2] at HF
  have HB:Hid (decide (ls=L)=b1/\decide (fs=F)=b2):=⟨eb1,eb2⟩
  clear eb1 eb2
  rcases b1 with _|_
  ·clear HF
   go_wp2_with fail
   refine HE.out.mono ?_
   rintro e w5 ⟨rfl,hb⟩
   have H5:Hid (Below w.heap.size w w5):=zak H4.out H4.out.size hb
   clear c0 c1 c2 c3 d0 d1 d2 d3 hb
   go_wp2_with fail
   go_ret
   exact⟨by have h:=HB.out.1;simp[h],H5.out⟩
  ·go_wp2_with fail
   refine HE.out.mono ?_
   rintro e w5 ⟨rfl,hb⟩
   have H5:Hid (Below w.heap.size w w5):=zak H4.out H4.out.size hb
   have hF5:=HF.out w5 hb
   replace c3:=zab hb c3;replace d3:=zab hb d3
   clear c0 c1 c2 d0 d1 d2 hb HE HF
   go_wp2_with fail
   refine hF5.mono ?_
   rintro e w6 ⟨rfl,hb⟩
   have H6:=zak H5.out H5.out.size hb
   clear c3 d3 hb hF5
   go_wp2_with fail
   go_ret
   exact⟨by have h:=HB.out;simp[h.1,h.2],H6⟩
theorem zsc{v0 v1 v2 v3 v4 v5:Value}{t:TypeId}(h:w.heap[b]?=some (.cells #[v0,v1,v2,v3,v4,v5] t)):w.cell? ⟨b,0,none⟩=some v0/\w.cell? ⟨b,1,none⟩=some v1/\w.cell? ⟨b,2,none⟩=some v2/\w.cell? ⟨b,3,none⟩=some v3/\w.cell? ⟨b,4,none⟩=some v4/\w.cell? ⟨b,5,none⟩=some v5 :=
 ⟨(cell_of_row _ _ 0 _ _ _ h).trans rfl,(cell_of_row _ _ 1 _ _ _ h).trans rfl,(cell_of_row _ _ 2 _ _ _ h).trans rfl,(cell_of_row _ _ 3 _ _ _ h).trans rfl,(cell_of_row _ _ 4 _ _ _ h).trans rfl,(cell_of_row _ _ 5 _ _ _ h).trans rfl⟩
theorem zrM(w:World)(v0 v1 v2 v3 v4 v5:Value)(t:TypeId):(w.alloc (.cells #[v0,v1,v2,v3,v4,v5] t)).cell? ⟨w.heap.size,0,none⟩=some v0/\(w.alloc (.cells #[v0,v1,v2,v3,v4,v5] t)).cell? ⟨w.heap.size,1,none⟩=some v1/\(w.alloc (.cells #[v0,v1,v2,v3,v4,v5] t)).cell? ⟨w.heap.size,2,none⟩=some v2/\(w.alloc (.cells #[v0,v1,v2,v3,v4,v5] t)).cell? ⟨w.heap.size,3,none⟩=some v3/\(w.alloc (.cells #[v0,v1,v2,v3,v4,v5] t)).cell? ⟨w.heap.size,4,none⟩=some v4/\(w.alloc (.cells #[v0,v1,v2,v3,v4,v5] t)).cell? ⟨w.heap.size,5,none⟩=some v5:=by
 refine⟨?_,?_,?_,?_,?_,?_⟩ <;> simp[go_sem]
