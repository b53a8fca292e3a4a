/- Part. -/
import Derived.Test.YthfhlgdeghnggaaGreatEAr
set_option maxHeartbeats 4000000
set_option maxRecDepth 100000
set_option linter.unusedVariables false
namespace Go.Proofs.YthfhlgdeghnggaaGreat
variable{va vo vr:Array Value}{ok:Bool}{wd wd':Int}{es:Le}{F fs:List (List Int)}{L ls xs:List Int}{cs:Lp}{B M hi lo n:Nat}{f l:Nat->Int}{ad:Nat->Od}{ta tr:TypeId}{w w':World}
open _root_.Go.Proofs.Tryz
namespace Sp
open Go.RowKit
attribute [local go_sem ↓] Go.wp_at_zero Go.wp_at_succ
theorem zbw(o:Obj)(w:World):(w.alloc o).heap[w.heap.size]?=some o/\xE w (w.alloc o):=by
 refine⟨?_,bel⟩
 show (w.heap.push o)[w.heap.size]?=some o
 simp
theorem zlR{a:Od}(h:RI w a (n * 1) f):zcA w a ((List.range n).map f):=by
 rcases Nat.eq_zero_or_pos n with rfl|hp
 ·exact .inl rfl
 ·obtain⟨g,rfl,hl,hc⟩:=h.at qg
  refine .inr ⟨g,0,rfl,hl,fun i hi=>?_⟩
  have hi':i<n:=by simpa using hi
  rw[Nat.zero_add,(hc i qg).1]
  simp[hi']
theorem zmY{a:Od}{n cp:Nat->Nat}{f:Nat->Nat->Int}(h:zbk w lo hi a M ad n cp f):zc7 w a ((List.range M).map fun k=>(List.range (n k)).map (f k)):=by
 rcases h with rfl|⟨b,rfl,h⟩
 ·exact .inl rfl
 ·refine .inr ⟨b,0,rfl,nll h.out.2 h.top,fun k hk=>?_⟩
  have hk':k<M:=by simpa using hk
  have e:((List.range M).map fun k=>(List.range (n k)).map (f k)).getD k []=(List.range (n k)).map (f k):=by simp[hk']
  rw[e]
  refine⟨ad k,cp k,?_,zlR (h.row k hk')⟩
  rw[Nat.zero_add,h.cell k hk']
  simp
def zuc(w:World)(wd:Int)(N M:Nat)(L:List Int)(F:List (List Int))(ok:Bool)(r:Ending)(w':World):Prop :=
 ∃ ga la fa gc lc fc,r=.returned (.tuple #[.agg (xH wd ga N gc la M lc fa M fc),.bool ok])/\zcA w' la L/\zc7 w' fa F/\xE w w'
theorem zhH{n:Nat->Nat}{f:Nat->Nat->Int}{r:Ending}(h:zud w wd cs M l n f ok r w'):zuc w wd cs.length M ((List.range M).map l) ((List.range M).map fun k=>(List.range (n k)).map (f k)) ok r w':=by
 obtain⟨ga,la,fa,gc,lc,fc,ad,cp,h1,_,h3,h4,_,_,h7⟩:=h
 exact⟨ga,la,fa,gc,lc,fc,h1,zlR h3,zmY h4,h7⟩
theorem zdg(wd:Int)(g l f:Od)(gc lc fc:Nat)(cs:Lp)(ls:List Int)(fs:List (List Int))(w:World)(hg:zaf w g cs)(hl:zcA w l ls)(hf:zc7 w f fs)(hS:zc8 cs ls fs){N':Nat}(hL:L.length=M)(hF:F.length=M)(hM:M<=20)(hx:∀ k,k<F.length->(F.getD k []).length<=1048576)(hC:∀(a:Od) (cap:Nat) (w:World),zaf w a cs->Calls SqP.prog 54 #[.agg (xG wd a cs.length cap)] w (zuc w wd' N' M L F ok)) :
  Calls SqP.prog 33 #[.agg (xH wd g cs.length gc l ls.length lc f fs.length fc)] w (xB w (.bool (ok && decide (ls=L) && decide (fs=F)))):=by
 obtain⟨w2,h1⟩:∃ w2,w2=w.alloc (.cells (xH wd g cs.length gc l ls.length lc f fs.length fc) 35):=⟨_,rfl⟩
 obtain⟨x1,h2⟩:=zbw (.cells (xH wd g cs.length gc l ls.length lc f fs.length fc) 35) w
 rw[<- h1] at x1 h2
 have H2:Hid (xE w w2):=h2
 have X2:Hid (w2.heap[w.heap.size]?=some (.cells (xH wd g cs.length gc l ls.length lc f fs.length fc) 35)):=x1
 have h4:=hC g gc w2 (hg.below h2)
 have HI:Hid ((zcA w l ls/\zc7 w f fs)/\zc8 cs ls fs):=⟨⟨hl,hf⟩,hS⟩
 obtain⟨N,hN⟩:∃ N,cs.length=N:=⟨_,rfl⟩
 obtain⟨P,hP⟩:∃ P,ls.length=P:=⟨_,rfl⟩
 obtain⟨R,hR⟩:∃ R,fs.length=R:=⟨_,rfl⟩
 have HN:Hid ((ls.length=P/\fs.length=R)/\L.length=M/\F.length=M):=⟨⟨hP,hR⟩,hL,hF⟩
 have HX:Hid (∀ k,k<F.length->(F.getD k []).length<=1048576):=hx
 rw[hN] at h4
 rw[hN,hP,hR] at X2 h1 ⊢
 clear hC hg hl hf hS x1 h2 hN hP hR hL hF hx
 go_enter (zfx func33),ntmps33
 go_upto_region 1 with fail
 rw[<- h1]
 clear h1
 obtain⟨c0,c1,c2,c3⟩:=zav X2.o
 go_wp2_with fail
 refine h4.mono ?_
 rintro e w3 ⟨ga',la',fa',gc',lc',fc',rfl,h5,h6,h3⟩
 have H3:Hid (xE w w3):=zae H2.o H2.o.size h3
 have h0:xE w3 (w3.alloc (.cells (xH wd' ga' N' gc' la' M lc' fa' M fc') 35)):=bel
 have X4:Hid ((w3.alloc (.cells (xH wd' ga' N' gc' la' M lc' fa' M fc') 35)).heap[w.heap.size]?=some (.cells (xH wd g N gc l P lc f R fc) 35)/\(w3.alloc (.cells (xH wd' ga' N' gc' la' M lc' fa' M fc') 35)).heap[w3.heap.size]?=some (.cells (xH wd' ga' N' gc' la' M lc' fa' M fc') 35)):=⟨(h0.block _ (gei ((h3.block _ (gei X2.o).1).trans X2.o)).1).trans ((h3.block _ (gei X2.o).1).trans X2.o),(zbw _ w3).1⟩
 have H4:Hid (xE w (w3.alloc (.cells (xH wd' ga' N' gc' la' M lc' fa' M fc') 35))):=zae H3.o H3.o.size h0
 have HR:Hid (zcA (w3.alloc (.cells (xH wd' ga' N' gc' la' M lc' fa' M fc') 35)) la' L/\zc7 (w3.alloc (.cells (xH wd' ga' N' gc' la' M lc' fa' M fc') 35)) fa' F):=⟨h5.below h0,h6.below h0⟩
 clear c0 c1 c2 c3 h5 h6 h3 h0 h4 X2 H2 H3
 go_upto_region 2 with fail
 obtain⟨w4,h7⟩:∃ w4,w4=w3.alloc (.cells (xH wd' ga' N' gc' la' M lc' fa' M fc') 35):=⟨_,rfl⟩
 rw[<- h7] at X4 H4 HR ⊢
 clear h7
 obtain⟨c0,c1,c2,c3⟩:=zav X4.o.1
 obtain⟨d0,d1,d2,d3⟩:=zav X4.o.2
 have hE:=zl5 l la' lc lc' ls L w4 (HI.o.1.1.below H4.o) HR.o.1 (by have:=HI.o.2.2.1;omega)
 rw[HN.o.1.1,HN.o.2.1] at hE
 have hF:∀ w5,xE w4 w5->Calls SqP.prog 56 #[.slice f R fc,.slice fa' M fc',.func (.func 55) #[] #[]] w5 fun e w'=>e=.returned (.bool (decide (fs=F)))/\xE w5 w':=fun w5 hb=>by
  have:=zpz f fa' fc fc' fs F w5 ((HI.o.1.2.below H4.o).below hb) (HR.o.2.below hb) (by have:=HI.o.2.2.2.1;omega) (fun k hk=>by have:=HI.o.2.2.2.2 k hk;omega)
  rw[HN.o.1.2,HN.o.2.2] at this
  exact this
 have HF:Hid (∀ w5,xE w4 w5->Calls SqP.prog 56 #[.slice f R fc,.slice fa' M fc',.func (.func 55) #[] #[]] w5 fun e w'=>e=.returned (.bool (decide (fs=F)))/\xE w5 w'):=hF
 have HE:Hid (Calls SqP.prog 55 #[.slice l P lc,.slice la' M lc'] w4 fun e w'=>e=.returned (.bool (decide (ls=L)))/\xE w4 w'):=hE
 clear hE hF HI HN HX HR X4
 rcases ok with _|_
 ·clear HE HF c0 c1 c2 c3 d0 d1 d2 d3
  go_wp2_with fail
  go_ret
  exact⟨qm,H4.o⟩
 ·obtain⟨b1,eb1⟩:∃ b1,decide (ls=L)=b1:=⟨_,rfl⟩
  obtain⟨b2,eb2⟩:∃ b2,decide (fs=F)=b2:=⟨_,rfl⟩
  rw[eb1] at HE
  rw[eb2] at HF
  have HB:Hid (decide (ls=L)=b1/\decide (fs=F)=b2):=⟨eb1,eb2⟩
  clear eb1 eb2
  rcases b1 with _|_
  ·clear HF
   go_wp2_with fail
   refine HE.o.mono ?_
   rintro e w5 ⟨rfl,hb⟩
   have H5:Hid (xE w w5):=zae H4.o H4.o.size hb
   clear c0 c1 c2 c3 d0 d1 d2 d3 hb
   go_wp2_with fail
   go_ret
   exact⟨by have h:=HB.o.1;simp[h],H5.o⟩
  ·go_wp2_with fail
   refine HE.o.mono ?_
   rintro e w5 ⟨rfl,hb⟩
   have H5:Hid (xE w w5):=zae H4.o H4.o.size hb
   have h8:=HF.o w5 hb
   replace c3:=zaa hb c3;replace d3:=zaa hb d3
   clear c0 c1 c2 d0 d1 d2 hb HE HF
   go_wp2_with fail
   refine h8.mono ?_
   rintro e w6 ⟨rfl,hb⟩
   have H6:=zae H5.o H5.o.size hb
   clear c3 d3 hb h8
   go_wp2_with fail
   go_ret
   exact⟨by have h:=HB.o;simp[h.1,h.2],H6⟩
theorem zdr(wd:Int)(g l f:Od)(gc lc fc:Nat)(cs:Lp)(ls:List Int)(fs:List (List Int))(w:World)(hg:zaf w g cs)(hl:zcA w l ls)(hf:zc7 w f fs)(hS:zc8 cs ls fs){N':Nat}(hL:L.length=M)(hF:F.length=M)(hM:M<=20)(hx:∀ k,k<F.length->(F.getD k []).length<=1048576)(hC:∀(a:Od) (cap:Nat) (w:World),zaf w a cs->Calls SqP.prog 50 #[.agg (xG wd a cs.length cap)] w (zuc w wd' N' M L F ok)) :
  Calls SqP.prog 28 #[.agg (xH wd g cs.length gc l ls.length lc f fs.length fc)] w (xB w (.bool (ok && decide (ls=L) && decide (fs=F)))):=by
 obtain⟨w2,h5⟩:∃ w2,w2=w.alloc (.cells (xH wd g cs.length gc l ls.length lc f fs.length fc) 35):=⟨_,rfl⟩
 obtain⟨x1,h6⟩:=zbw (.cells (xH wd g cs.length gc l ls.length lc f fs.length fc) 35) w
 rw[<- h5] at x1 h6
 have H2:Hid (xE w w2):=h6
 have X2:Hid (w2.heap[w.heap.size]?=some (.cells (xH wd g cs.length gc l ls.length lc f fs.length fc) 35)):=x1
 have h8:=hC g gc w2 (hg.below h6)
 have HI:Hid ((zcA w l ls/\zc7 w f fs)/\zc8 cs ls fs):=⟨⟨hl,hf⟩,hS⟩
 obtain⟨N,hN⟩:∃ N,cs.length=N:=⟨_,rfl⟩
 obtain⟨P,hP⟩:∃ P,ls.length=P:=⟨_,rfl⟩
 obtain⟨R,hR⟩:∃ R,fs.length=R:=⟨_,rfl⟩
 have HN:Hid ((ls.length=P/\fs.length=R)/\L.length=M/\F.length=M):=⟨⟨hP,hR⟩,hL,hF⟩
 have HX:Hid (∀ k,k<F.length->(F.getD k []).length<=1048576):=hx
 rw[hN] at h8
 rw[hN,hP,hR] at X2 h5 ⊢
 clear hC hg hl hf hS x1 h6 hN hP hR hL hF hx
 go_enter (zfx func28),ntmps28
 go_upto_region 1 with fail
 rw[<- h5]
 clear h5
 obtain⟨c0,c1,c2,c3⟩:=zav X2.o
 go_wp2_with fail
 refine h8.mono ?_
 rintro e w3 ⟨ga',la',fa',gc',lc',fc',rfl,h9,he,h7⟩
 have H3:Hid (xE w w3):=zae H2.o H2.o.size h7
 have h1:xE w3 (w3.alloc (.cells (xH wd' ga' N' gc' la' M lc' fa' M fc') 35)):=bel
 have X4:Hid ((w3.alloc (.cells (xH wd' ga' N' gc' la' M lc' fa' M fc') 35)).heap[w.heap.size]?=some (.cells (xH wd g N gc l P lc f R fc) 35)/\(w3.alloc (.cells (xH wd' ga' N' gc' la' M lc' fa' M fc') 35)).heap[w3.heap.size]?=some (.cells (xH wd' ga' N' gc' la' M lc' fa' M fc') 35)):=⟨(h1.block _ (gei ((h7.block _ (gei X2.o).1).trans X2.o)).1).trans ((h7.block _ (gei X2.o).1).trans X2.o),(zbw _ w3).1⟩
 have H4:Hid (xE w (w3.alloc (.cells (xH wd' ga' N' gc' la' M lc' fa' M fc') 35))):=zae H3.o H3.o.size h1
 have HR:Hid (zcA (w3.alloc (.cells (xH wd' ga' N' gc' la' M lc' fa' M fc') 35)) la' L/\zc7 (w3.alloc (.cells (xH wd' ga' N' gc' la' M lc' fa' M fc') 35)) fa' F):=⟨h9.below h1,he.below h1⟩
 clear c0 c1 c2 c3 h9 he h7 h1 h8 X2 H2 H3
 go_upto_region 2 with fail
 obtain⟨w4,hk⟩:∃ w4,w4=w3.alloc (.cells (xH wd' ga' N' gc' la' M lc' fa' M fc') 35):=⟨_,rfl⟩
 rw[<- hk] at X4 H4 HR ⊢
 clear hk
 obtain⟨c0,c1,c2,c3⟩:=zav X4.o.1
 obtain⟨d0,d1,d2,d3⟩:=zav X4.o.2
 have hE:=zf3 la' l lc' lc L ls w4 HR.o.1 (HI.o.1.1.below H4.o) (by have:=HN.o.2.1;omega)
 rw[HN.o.1.1,HN.o.2.1] at hE
 have HE:Hid (Calls SqP.prog 51 #[.slice la' M lc',.slice l P lc] w4 fun e w'=>e=.returned (.bool (decide (L=ls)))/\xE w4 w'):=hE
 clear hE
 rcases ok with _|_
 ·clear HE HR HI HN HX X4 c0 c1 c2 c3 d0 d1 d2 d3
  go_wp2_with fail
  go_ret
  exact⟨qm,H4.o⟩
 by_cases q1:¬ ls=L
 ·have hd:decide (L=ls)=false:=decide_eq_false (fun e=>q1 e.symm)
  rw[hd] at HE
  have HQ:Hid (¬ ls=L):=q1
  clear hd q1 HR HI HN HX X4
  go_wp2_with fail
  refine HE.o.mono ?_
  rintro e w5 ⟨rfl,hb⟩
  have H5:Hid (xE w w5):=zae H4.o H4.o.size hb
  clear c0 c1 c2 c3 d0 d1 d2 d3 hb
  go_wp2_with fail
  go_ret
  exact⟨by have h:=HQ.o;simp[h],H5.o⟩
 replace q1:ls=L:=Decidable.not_not.1 q1
 have hd:decide (L=ls)=true:=decide_eq_true q1.symm
 rw[hd] at HE
 have HQ:Hid (ls=L):=q1
 clear hd q1
 by_cases q2:¬ R=M
 ·have hs:((M:Int) != (R:Int))=true:=qn
  have HQ2:Hid (¬ fs=F):=fun e=>q2 (by rw[<- HN.o.1.2,<- HN.o.2.2,e])
  clear q2 HR HI HN HX X4
  go_wp2_with fail
  refine HE.o.mono ?_
  rintro e w5 ⟨rfl,hb⟩
  have H5:Hid (xE w w5):=zae H4.o H4.o.size hb
  replace c3:=zaa hb c3;replace d3:=zaa hb d3
  clear c0 c1 c2 d0 d1 d2 hb HE
  go_wp2_with fail
  go_ret
  exact⟨by have h:=HQ2.o;simp[h],H5.o⟩
 replace q2:R=M:=Decidable.not_not.1 q2
 subst q2
 have hs:((R:Int) != (R:Int))=false:=qm
 go_wp2_with fail
 refine HE.o.mono ?_
 rintro e w5 ⟨rfl,hb⟩
 have H5:Hid (xE w w5):=zae H4.o H4.o.size hb
 have R5:Hid (zc7 w5 f fs/\zc7 w5 fa' F):=⟨(HI.o.1.2.below H4.o).below hb,HR.o.2.below hb⟩
 replace c3:=zaa hb c3;replace d3:=zaa hb d3
 clear c0 c1 c2 d0 d1 d2 hb HE HR X4
 go_wp2_with fail
 go_loopw [5] (fun ii wr=>∃ i:Nat,i<=R/\ii=J i/\(∀ j,j<i->F.getD j []=fs.getD j [])/\xE w5 wr) (fun ii _=>R - (intOf ii).toNat)
 case atStart=>exact⟨0,Nat.zero_le _,rfl,fun j h=>qg,Below.refl _ _⟩
 case round =>
  rename World=>wo
  obtain⟨i,hi,rfl,h4,hb⟩:=hrel
  have hp:=hb.size
  have HS:Hid (∀ j,j<i->F.getD j []=fs.getD j []):=h4
  have c3':=zaa hb c3
  have d3':=zaa hb d3
  clear c3 d3 h4
  by_cases hlt:i<R
  ·obtain⟨b1,o1,a3,p3,rfl,y0,hX⟩:=(R5.o.1.below hb).at (k:=i) qa
   obtain⟨b2,o2,a4,p4,rfl,x0,hY⟩:=(R5.o.2.below hb).at (k:=i) qa
   have hq:=HX.o i qa
   have hu:(i:Int)<(R:Int):=qg
   have wk:IntKind.i64.wrap ((i:Int)+1)=(i:Int)+1:=IntWalk.i64_in _ qg
   obtain⟨x,ex⟩:∃ x,F.getD i []=x:=⟨_,rfl⟩
   obtain⟨y,ey⟩:∃ y,fs.getD i []=y:=⟨_,rfl⟩
   have HE:Hid (F.getD i []=x/\fs.getD i []=y):=⟨ex,ey⟩
   rw[ex] at x0 hY hq
   rw[ey] at y0 hX
   have hC:=fun w hb=>zf3 a4 a3 p4 p3 x y w (hY.below hb) (hX.below hb) qg
   obtain⟨m1,em1⟩:∃ m,x.length=m:=⟨_,rfl⟩
   obtain⟨m2,em2⟩:∃ m,y.length=m:=⟨_,rfl⟩
   rw[em1,em2] at hC
   rw[em1] at x0
   rw[em2] at y0
   clear ex ey em1 em2 hX hY hq
   by_cases hxy:x=y
   ·have HXY:Hid (x=y):=hxy
    rw[decide_eq_true hxy] at hC
    clear hxy
    go_wp2
    go_region_held3 (fun w'=>(w'.cell? (xC w3 3)=some (.slice (some (O b2 o2)) R fc')/\w'.cell? (xC w 3)=some (.slice (some (O b1 o1)) R fc))/\w'.cell? (O b2 (o2+i))=some (.slice a4 m1 p4)/\w'.cell? (O b1 (o1+i))=some (.slice a3 m2 p3))
     (first
      | exact⟨⟨zaa h0 d3',zaa h0 c3'⟩,zaa h0 x0,zaa h0 y0⟩
      | exact⟨⟨d3',c3'⟩,x0,y0⟩
      | go_keep)
     (first
      | (go_at_call 51;refine(hC _ (by first|exact Below.refl _ _|exact(Below.refl _ _).drew)).mono ?_;rintro e w7 ⟨rfl,hb7'⟩;have h0:xE wo w7:=(by first|exact hb7'|exact zcq hb7'))
      | fail)
    all_goals
     have h3:=zae hb hp h0
     go_wp2_with fail
     go_roundw
     case rel =>
      refine⟨i+1,qg,by go_num,fun j hj=>?_,by first|exact h3|exact h3.drew⟩
      rcases Nat.lt_succ_iff_lt_or_eq.1 hj with q|rfl
      ·exact HS.o j q
      ·rw[HE.o.1,HE.o.2];exact HXY.o
     case measure=>exact qe
   ·have HQ2:Hid (¬ fs=F):=fun e=>hxy (by rw[<- HE.o.1,<- HE.o.2,e])
    rw[decide_eq_false hxy] at hC
    clear hxy
    go_wp2
    go_region_held3 (fun w'=>(w'.cell? (xC w3 3)=some (.slice (some (O b2 o2)) R fc')/\w'.cell? (xC w 3)=some (.slice (some (O b1 o1)) R fc))/\w'.cell? (O b2 (o2+i))=some (.slice a4 m1 p4)/\w'.cell? (O b1 (o1+i))=some (.slice a3 m2 p3))
     (first
      | exact⟨⟨zaa h0 d3',zaa h0 c3'⟩,zaa h0 x0,zaa h0 y0⟩
      | exact⟨⟨d3',c3'⟩,x0,y0⟩
      | go_keep)
     (first
      | (go_at_call 51;refine(hC _ (by first|exact Below.refl _ _|exact(Below.refl _ _).drew)).mono ?_;rintro e w7 ⟨rfl,hb7'⟩;have h0:xE wo w7:=(by first|exact hb7'|exact zcq hb7'))
      | fail)
    all_goals
     have h3:=zae H5.o H5.o.size (zae hb hp h0)
     go_wp2_with fail
     go_ret
     exact⟨by have h:=HQ2.o;simp[h],by first|exact h3|exact h3.drew⟩
  ·have hw:¬ (i:Int)<(R:Int):=qg
   have HQ2:Hid (fs=F):=zlC (HN.o.1.2.trans HN.o.2.2.symm) fun j hj=>(HS.o j qa).symm
   go_wp2_with fail
   go_ret
   exact⟨by have h:=HQ2.o;have h2:=HQ.o;simp[h,h2],zae H5.o H5.o.size hb⟩
theorem zoi{g l f g2 l2 f2:Od}{gc lc fc gc2 lc2 fc2:Nat}(h:ScM w g l f cs ls fs)(h2:ScM w g2 l2 f2 cs ls fs)(hS:zc8 cs ls fs) :
  Calls SqP.prog 11 #[.agg (xH wd g cs.length gc l ls.length lc f fs.length fc),.agg (xH wd g2 cs.length gc2 l2 ls.length lc2 f2 fs.length fc2)] w (xB w (.bool true)) :=
 zoj wd g l f g2 l2 f2 gc lc fc gc2 lc2 fc2 cs ls fs w h.1 h.2.1 h.2.2 h2.1 h2.2.1 h2.2.2 hS
theorem ScN.put{b i g1 g2 g3:Nat}(h:ScN w lo g1 g2 g3 cs ls fs)(hb:b<lo)(v:Value):ScN (w.setCell (O b i) v) lo g1 g2 g3 cs ls fs :=
 h.move qm fun k hk _=>Below.heap_setCell _ _ _ _ (by show k≠b;omega)
def zgN(w:World)(a:Od)(es:Le):Prop:=es=[]\/∃ b off,a=some (O b off)/\b<w.heap.size/\∀ i,i<es.length->w.cell? (O b (off+i * 3))=some (J (es.getD i (0,0,0)).1)/\w.cell? (O b (off+i * 3+1))=some (J (es.getD i (0,0,0)).2.1)/\w.cell? (O b (off+i * 3+2))=some (J (es.getD i (0,0,0)).2.2)
theorem zgN.below{a:Od}(h:zgN w a es)(hb:xE w w'):zgN w' a es:=by
 rcases h with h|⟨b,off,rfl,hl,hc⟩
 ·exact .inl h
 ·exact .inr ⟨b,off,rfl,nll hl hb.size,fun i hi=>⟨zaa hb (hc i hi).1,zaa hb (hc i hi).2.1,zaa hb (hc i hi).2.2⟩⟩
theorem zgN.at{w:World}{a:Od}{es:Le}(h:zgN w a es){i:Nat}(hi:i<es.length):∃ b off x k l,a=some (O b off)/\es.getD i (0,0,0)=(x,k,l)/\w.cell? (O b (off+i * 3))=some (J x)/\w.cell? (O b (off+i * 3+1))=some (J k)/\w.cell? (O b (off+i * 3+2))=some (J l):=by
 rcases h with rfl|⟨b,off,rfl,_,hc⟩
 ·simp at hi
 ·obtain⟨h1,h2,h3⟩:=hc i hi
  exact⟨b,off,_,_,_,rfl,rfl,h1,h2,h3⟩
theorem zmG{b:Nat}{v0 v1 v2:Value}{t:TypeId}(h:w.heap[b]?=some (.cells #[v0,v1,v2] t)):w.cell? (O b 0)=some v0/\w.cell? (O b 1)=some v1/\w.cell? (O b 2)=some v2 :=
 ⟨(cell_of_row _ _ 0 _ _ _ h).trans rfl,(cell_of_row _ _ 1 _ _ _ h).trans rfl,(cell_of_row _ _ 2 _ _ _ h).trans rfl⟩
structure CpT(w:World)(B:Nat)(ta tr:TypeId)(va vr vo:Array Value):Prop where
 a:w.heap[B]?=some (.cells va ta)
 r:w.heap[B+1]?=some (.cells vr tr)
 o:w.heap[B+2]?=some (.cells vo tr)
theorem CpT.on(h:CpT w B ta tr va vr vo)(hb:xE w w'):CpT w' B ta tr va vr vo :=
 ⟨(hb.block _ (gei h.a).1).trans h.a,(hb.block _ (gei h.r).1).trans h.r,(hb.block _ (gei h.o).1).trans h.o⟩
theorem CpT.put(h:CpT w B ta tr va vr vo)(i:Nat)(v:Value):CpT (w.setCell (O (B+2) i) v) B ta tr va vr (vo.setIfInBounds i v) :=
 ⟨(Below.heap_setCell _ _ _ _ (by show B≠B+2;omega)).trans h.a,(Below.heap_setCell _ _ _ _ (by show B+1≠B+2;omega)).trans h.r,heap_setCell_same _ _ _ _ _ _ h.o⟩
theorem zhs(x k l:Int)(w:World) :
  Calls SqP.prog 16 #[.agg #[J x,J k,J l]] w (xB w (.agg #[J x,J k,J l])):=by
 obtain⟨w2,h0⟩:∃ w2,w2=((w.alloc (.cells #[J x,J k,J l] 45)).alloc (.cells #[J 0,J 0,J 0] 50)).alloc (.cells #[J 0,J 0,J 0] 50):=⟨_,rfl⟩
 obtain⟨x1,x2,x3,h4,h1⟩:=zcn (.cells #[J x,J k,J l] 45) (.cells #[J 0,J 0,J 0] 50) (.cells #[J 0,J 0,J 0] 50) w
 rw[<- h0] at x1 x2 x3 h4 h1
 have K2:CpT w2 w.heap.size 45 50 #[J x,J k,J l] #[J 0,J 0,J 0] #[J 0,J 0,J 0]:=⟨x1,x2,x3⟩
 have B2:Hid (xE w w2):=h1
 clear x1 x2 x3 h1
 obtain⟨c0,c1,c2⟩:=zmG K2.a
 obtain⟨o0,o1,o2⟩:=zmG K2.o
 have t0:=thaw K2.o 0
 have K3:Hid (CpT (w2.setCell (xD w 2 0) (J x)) w.heap.size 45 50 #[J x,J k,J l] #[J 0,J 0,J 0] #[J x,J 0,J 0]):=K2.put 0 _
 have B3:Hid (xE w (w2.setCell (xD w 2 0) (J x))):=B2.o.setCell (p:=(xD w 2 0)) (by show w.heap.size<=w.heap.size+2;omega) _
 go_enter (zfx func16),ntmps16
 go_upto_region 2 with fail
 rw[<- h0]
 clear h0 K2
 go_upto_region 3 with fail
 obtain⟨w3,h2⟩:∃ w3,w3=(w2.setCell (xD w 2 0) (J x)):=⟨_,rfl⟩
 rw[<- h2] at K3 B3 ⊢
 clear h2 c0 c1 c2 o0 o1 o2 t0 B2
 obtain⟨c0,c1,c2⟩:=zmG K3.o.a
 go_wp2_with fail
 refine(zhr k l w3).mono ?_
 rintro e w4 ⟨rfl,hb⟩
 have K4:=K3.o.on hb
 have B4:Hid (xE w w4):=zae B3.o B3.o.size hb
 obtain⟨o0,o1,o2⟩:=zmG K4.o
 have t1:=thaw K4.o 1
 have t2:=thaw K4.o 2
 clear c0 c1 c2 hb K3 B3
 have K5:Hid (CpT ((w4.setCell (xD w 2 1) (J k)).setCell (xD w 2 2) (J l)) w.heap.size 45 50 #[J x,J k,J l] #[J 0,J 0,J 0] #[J x,J k,J l]):=(K4.put 1 _).put 2 _
 have B5:Hid (xE w ((w4.setCell (xD w 2 1) (J k)).setCell (xD w 2 2) (J l))):=(B4.o.setCell (p:=(xD w 2 1)) (by show w.heap.size<=w.heap.size+2;omega) _).setCell (p:=(xD w 2 2)) (by show w.heap.size<=w.heap.size+2;omega) _
 clear K4
 go_upto_region 4 with fail
 obtain⟨w5,h3⟩:∃ w5,w5=((w4.setCell (xD w 2 1) (J k)).setCell (xD w 2 2) (J l)):=⟨_,rfl⟩
 rw[<- h3] at K5 B5 ⊢
 clear h3 o0 o1 o2 t1 t2 B4
 obtain⟨c0,c1,c2⟩:=zmG K5.o.o
 obtain⟨q0,q1,q2⟩:=zmG K5.o.r
 have t0:=thaw K5.o.r 0
 have t1:=thaw K5.o.r 1
 have t2:=thaw K5.o.r 2
 go_wp2_with fail
 refine bodyPost_ret (v:=.agg #[J x,J k,J l]) (by simp[results,results16,go_sem,q0,q1,q2]) rfl ⟨rfl,?_⟩
 exact((B5.o.setCell (p:=(xD w 1 0)) (by show w.heap.size<=w.heap.size+1;omega) _).setCell (p:=(xD w 1 1)) (by show w.heap.size<=w.heap.size+1;omega) _).setCell (p:=(xD w 1 2)) (by show w.heap.size<=w.heap.size+1;omega) _
def ziy(n:Nat)(es:Le):Bool:=es.all fun e=>inP e.1 n && okC e.2.1 e.2.2
theorem zka{i:Nat}(hi:i<es.length)(h:(inP (es.getD i (0,0,0)).1 n && okC (es.getD i (0,0,0)).2.1 (es.getD i (0,0,0)).2.2)=false):ziy n es=false:=by
 unfold ziy
 rw[List.all_eq_false]
 refine⟨es.getD i (0,0,0),?_,by simpa using h⟩
 simp[List.getD,List.getElem?_eq_getElem hi]
theorem zlz(h:∀ i,i<es.length->(inP (es.getD i (0,0,0)).1 n && okC (es.getD i (0,0,0)).2.1 (es.getD i (0,0,0)).2.2)=true):ziy n es=true:=by
 unfold ziy
 rw[List.all_eq_true]
 intro e he
 obtain⟨i,hi,rfl⟩:=List.getElem_of_mem he
 have:=h i hi
 simpa [List.getD,List.getElem?_eq_getElem hi] using this
theorem zi7(wd:Int)(g a:Od)(gc ac n:Nat)(es:Le)(w:World)(h:zgN w a es)(hn:n<=1048576)(hm:es.length<=1048576) :
  Calls SqP.prog 42 #[.agg (xG wd g n gc),.slice a es.length ac] w (xB w (.bool (decide (es.length<=20) && ziy n es))):=by
 obtain⟨N,hN⟩:∃ N,es.length=N:=⟨_,rfl⟩
 by_cases hbig:20<N
 ·have HQ:Hid (20<N):=hbig
  have hb:(20:Int)<(N:Int):=qg
  rw[hN]
  clear h hbig hN
  go_enter (zfx func42),ntmps42
  go_wp2_with fail
  go_ret
  exact⟨by have h:=HQ.o;have h2:¬ N<=20:=qg
           simp[h2],bel⟩
 have hs:¬ (20:Int)<(N:Int):=qg
 have HN:Hid (es.length=N):=hN
 have HS:Hid (N<=20):=by show _<=_;omega
 obtain⟨w2,h7⟩:∃ w2,w2=w.alloc (.cells (xG wd g n gc) 33):=⟨_,rfl⟩
 obtain⟨x1,h6⟩:=zbw (.cells (xG wd g n gc) 33) w
 rw[<- h7] at x1 h6
 have H2:Hid (xE w w2):=h6
 have hE:=h.below h6
 rw[hN]
 clear h hbig hN h6 hm
 have c0:w2.cell? (xC w 0)=some (J wd):=(cell_of_row _ _ 0 _ _ _ x1).trans rfl
 have c1:w2.cell? (xC w 1)=some (.slice g n gc):=(cell_of_row _ _ 1 _ _ _ x1).trans rfl
 clear x1
 go_enter (zfx func42),ntmps42
 go_upto_region 1 with fail
 rw[<- h7]
 clear h7
 go_wp2_with fail
 go_loopw [5] (fun ii wr=>∃ i:Nat,i<=N/\ii=J i/\(∀ j,j<i->(inP (es.getD j (0,0,0)).1 n && okC (es.getD j (0,0,0)).2.1 (es.getD j (0,0,0)).2.2)=true)/\xE w2 wr) (fun ii _=>N - (intOf ii).toNat)
 case atStart=>exact⟨0,Nat.zero_le _,rfl,fun j hj=>qg,Below.refl _ _⟩
 case round =>
  rename World=>wo
  obtain⟨i,hi,rfl,h5,hb⟩:=hrel
  have h8:=hb.size
  have HSame:Hid (∀ j,j<i->(inP (es.getD j (0,0,0)).1 n && okC (es.getD j (0,0,0)).2.1 (es.getD j (0,0,0)).2.2)=true):=h5
  clear h5
  replace c0:=zaa hb c0;replace c1:=zaa hb c1
  by_cases hlt:i<N
  ·obtain⟨b,off,x,k,l,rfl,he,x0,x1,x2⟩:=(hE.below hb).at (i:=i) qa
   have hk:(i:Int)<(N:Int):=qg
   have wk:IntKind.i64.wrap ((i:Int)+1)=(i:Int)+1:=IntWalk.i64_in _ (by have:=HS.o;omega)
   have wn:IntKind.i64.wrap ((n:Int) - 1)=(n:Int) - 1:=IntWalk.i64_in _ qg
   have HE:Hid (es.getD i (0,0,0)=(x,k,l)):=he
   clear hE he
   obtain⟨p,ep⟩:∃ p,inP x n=p:=⟨_,rfl⟩
   obtain⟨q,eq⟩:∃ q,okC k l=q:=⟨_,rfl⟩
   have HP:Hid (inP x n=p/\okC k l=q):=⟨ep,eq⟩
   have h9:=fun w=>(zcw (aLt:=Sq.altP)) k l w
   have hL:=fun w=>(zbc (aLt:=Sq.altP)) x 0 ((n:Int) - 1) w
   have eB:inB x 0 ((n:Int) - 1)=inP x n:=by
    unfold inB inP
    by_cases h1:0<=x <;> by_cases h2:x<(n:Int) <;> simp[h1,h2] <;> omega
   simp only[eB,ep] at hL
   rw[eq] at h9
   clear ep eq eB
   rcases q with _|_
   ·clear hL
    go_wp2
    refine wp_region_held_drew (S:=(fun w'=>(w'.cell? (O b (off+i * 3))=some (J x)/\w'.cell? (O b (off+i * 3+1))=some (J k)/\w'.cell? (O b (off+i * 3+2))=some (J l))/\w'.cell? (xC w 0)=some (J wd)/\w'.cell? (xC w 1)=some (.slice g n gc))) qh ?_ (fun hf=>?_)
    ·exact⟨⟨x0,x1,x2⟩,c0,c1⟩
    refine wpAnyH_take (i:=0) (oi:={ dst:=some 15,op:=.move (.tmp 1),type:=56,pos:= "l13_scene.go:97",after:=#[],guard:=none }) (v:=?vs0) rfl qh qh qh (fun _ _ _ h=>h) (Or.inl ⟨by rfl,?hys0⟩) qp ?rests0
    case hys0=>(intro w h0;(try dsimp only at h0);go_simp;try (with_reducible rfl))
    (try simp only[Act.put,asl])
    refine wpAnyH_take (i:=1) (oi:={ dst:=some 16,op:=.move (.tmp 5),type:=3,pos:= "l13_scene.go:97",after:=#[],guard:=none }) (v:=?vs1) rfl qh qh qh (fun _ _ _ h=>h) (Or.inl ⟨by rfl,?hys1⟩) qp ?rests1
    case hys1=>(intro w h0;(try dsimp only at h0);go_simp;try (with_reducible rfl))
    (try simp only[Act.put,asl])
    refine wpAnyH_take (i:=2) (oi:={ dst:=some 17,op:=.indexAddr 56 (.tmp 15) (.tmp 16),type:=0,pos:= "l13_scene.go:97",after:=#[{ on:=0,ground:=.data },{ on:=1,ground:=.data }],guard:=none }) (v:=?vs2) rfl qh qh qh (fun _ _ _ h=>h) (Or.inl ⟨by rfl,?hys2⟩) qp ?rests2
    case hys2=>(intro w h0;(try dsimp only at h0);go_simp;try (with_reducible rfl))
    (try simp only[Act.put,asl])
    refine wpAnyH_take (i:=3) (oi:={ dst:=some 18,op:=.fieldAddr 50 (.tmp 17) 1,type:=0,pos:= "l13_scene.go:97",after:=#[{ on:=2,ground:=.data }],guard:=none }) (v:=?vs3) rfl qh qh qh (fun _ _ _ h=>h) (Or.inl ⟨by rfl,?hys3⟩) qp ?rests3
    case hys3=>(intro w h0;(try dsimp only at h0);go_simp;try (with_reducible rfl))
    (try simp only[Act.put,asl])
    refine wpAnyH_take (i:=4) (oi:={ dst:=some 19,op:=.load 48 (.tmp 18),type:=48,pos:= "l13_scene.go:97",after:=#[{ on:=3,ground:=.data }],guard:=none }) (v:=?vs4) rfl qh qh qh (fun _ _ _ h=>h) (Or.inl ⟨by rfl,?hys4⟩) qp ?rests4
    case hys4=>(intro w h0;(try dsimp only at h0);go_simp;try (with_reducible rfl))
    (try simp only[Act.put,asl])
    refine wpAnyH_ready (rs:=[5]) qh qm ?_
    refine AllReadyH.cons (o:={ dst:=some 20,op:=.call { callee:=.value (.func 60),args:=#[.tmp 19],argTypes:=#[48] },type:=4,pos:= "l13_scene.go:97",after:=#[{ on:=4,ground:=.data }],guard:=none }) rfl (fun K hK=>?_) AllReadyH.nil
    go_simp
    (go_at_call 60;refine(h9 _).mono ?_;rintro e w7 ⟨rfl,hb7'⟩;have h3:xE wo w7:=(by first|exact hb7'|exact zcq hb7'))
    (try go_wp2_with fail)
    refine hK.out _ _ ?_ (fun hf=>?_)
    ·exact⟨⟨zaa h3 x0,zaa h3 x1,zaa h3 x2⟩,zaa h3 c0,zaa h3 c1⟩
    clear hK K
    (try simp only[Act.put,asl])
    refine wpAnyH_take (i:=6) (oi:={ dst:=some 21,op:=.unOp .not 4 (.tmp 20),type:=4,pos:= "l13_scene.go:97",after:=#[{ on:=5,ground:=.data }],guard:=none }) (v:=?vs6) rfl qh qh qh (fun _ _ _ h=>h) (Or.inl ⟨by rfl,?hys6⟩) qp ?rests6
    case hys6=>(intro w h0;(try dsimp only at h0);go_simp;try (with_reducible rfl))
    (try simp only[Act.put,asl])
    refine wpAnyH_take (i:=7) (oi:={ dst:=some 22,op:=.move (.tmp 21),type:=4,pos:= "l13_scene.go:97",after:=#[{ on:=6,ground:=.data },{ on:=5,ground:=.chain }],guard:=none }) (v:=?vs7) rfl qh qh qh (fun _ _ _ h=>h) (Or.inl ⟨by rfl,?hys7⟩) qp ?rests7
    case hys7=>(intro w h0;(try dsimp only at h0);go_simp;try (with_reducible rfl))
    (try simp only[Act.put,asl])
    refine wpAnyH_take (i:=8) (oi:={ dst:=some 23,op:=.move (.tmp 1),type:=56,pos:= "l13_scene.go:97",after:=#[{ on:=7,ground:=.guard }],guard:=some (7,false) }) (v:=undef) rfl qh qh qh (fun _ _ _ h=>h) (Or.inr ⟨by rfl,rfl⟩) qp ?_
    (try simp only[Act.put,asl])
    refine wpAnyH_take (i:=9) (oi:={ dst:=some 24,op:=.move (.tmp 5),type:=3,pos:= "l13_scene.go:97",after:=#[{ on:=7,ground:=.guard }],guard:=some (7,false) }) (v:=undef) rfl qh qh qh (fun _ _ _ h=>h) (Or.inr ⟨by rfl,rfl⟩) qp ?_
    (try simp only[Act.put,asl])
    refine wpAnyH_take (i:=10) (oi:={ dst:=some 25,op:=.indexAddr 56 (.tmp 23) (.tmp 24),type:=0,pos:= "l13_scene.go:97",after:=#[{ on:=8,ground:=.data },{ on:=9,ground:=.data },{ on:=7,ground:=.guard }],guard:=some (7,false) }) (v:=undef) rfl qh qh qh (fun _ _ _ h=>h) (Or.inr ⟨by rfl,rfl⟩) qp ?_
    (try simp only[Act.put,asl])
    refine wpAnyH_take (i:=11) (oi:={ dst:=some 26,op:=.fieldAddr 50 (.tmp 25) 0,type:=0,pos:= "l13_scene.go:97",after:=#[{ on:=10,ground:=.data },{ on:=7,ground:=.guard }],guard:=some (7,false) }) (v:=undef) rfl qh qh qh (fun _ _ _ h=>h) (Or.inr ⟨by rfl,rfl⟩) qp ?_
    (try simp only[Act.put,asl])
    refine wpAnyH_take (i:=12) (oi:={ dst:=some 27,op:=.load 3 (.tmp 26),type:=3,pos:= "l13_scene.go:97",after:=#[{ on:=11,ground:=.data },{ on:=7,ground:=.guard }],guard:=some (7,false) }) (v:=undef) rfl qh qh qh (fun _ _ _ h=>h) (Or.inr ⟨by rfl,rfl⟩) qp ?_
    (try simp only[Act.put,asl])
    refine wpAnyH_take (i:=13) (oi:={ dst:=some 28,op:=.fieldAddr 33 (.tmp 2) 1,type:=0,pos:= "l13_scene.go:97",after:=#[{ on:=7,ground:=.guard }],guard:=some (7,false) }) (v:=undef) rfl qh qh qh (fun _ _ _ h=>h) (Or.inr ⟨by rfl,rfl⟩) qp ?_
    (try simp only[Act.put,asl])
    refine wpAnyH_take (i:=14) (oi:={ dst:=some 29,op:=.load 31 (.tmp 28),type:=31,pos:= "l13_scene.go:97",after:=#[{ on:=13,ground:=.data },{ on:=7,ground:=.guard }],guard:=some (7,false) }) (v:=undef) rfl qh qh qh (fun _ _ _ h=>h) (Or.inr ⟨by rfl,rfl⟩) qp ?_
    (try simp only[Act.put,asl])
    refine wpAnyH_take (i:=15) (oi:={ dst:=some 30,op:=.call { callee:=.builtin Go.Builtin.len,args:=#[.tmp 29],argTypes:=#[31] },type:=3,pos:= "l13_scene.go:97",after:=#[{ on:=14,ground:=.data },{ on:=7,ground:=.guard }],guard:=some (7,false) }) (v:=undef) rfl qh qh qh (fun _ _ _ h=>h) (Or.inr ⟨by rfl,rfl⟩) qp ?_
    (try simp only[Act.put,asl])
    refine wpAnyH_take (i:=16) (oi:={ dst:=some 31,op:=.binOp .sub 3 (.tmp 30) (.const (.int Go.IntKind.i64 1)) 3,type:=3,pos:= "l13_scene.go:97",after:=#[{ on:=15,ground:=.data },{ on:=7,ground:=.guard }],guard:=some (7,false) }) (v:=undef) rfl qh qh qh (fun _ _ _ h=>h) (Or.inr ⟨by rfl,rfl⟩) qp ?_
    (try simp only[Act.put,asl])
    refine wpAnyH_take (i:=17) (oi:={ dst:=some 32,op:=.call { callee:=.value (.func 61),args:=#[.tmp 27,.const (.int Go.IntKind.i64 0),.tmp 31],argTypes:=#[3,3,3] },type:=4,pos:= "l13_scene.go:97",after:=#[{ on:=12,ground:=.data },{ on:=16,ground:=.data },{ on:=7,ground:=.chain },{ on:=7,ground:=.guard }],guard:=some (7,false) }) (v:=undef) rfl qh qh qh (fun _ _ _ h=>h) (Or.inr ⟨by rfl,rfl⟩) qp ?_
    (try simp only[Act.put,asl])
    refine wpAnyH_take (i:=18) (oi:={ dst:=some 33,op:=.unOp .not 4 (.tmp 32),type:=4,pos:= "l13_scene.go:97",after:=#[{ on:=17,ground:=.data },{ on:=7,ground:=.guard }],guard:=some (7,false) }) (v:=undef) rfl qh qh qh (fun _ _ _ h=>h) (Or.inr ⟨by rfl,rfl⟩) qp ?_
    (try simp only[Act.put,asl])
    refine wpAnyH_take (i:=19) (oi:={ dst:=some 34,op:=.pick (.tmp 22) (.const (.bool true)) (.tmp 33),type:=4,pos:= "l13_scene.go:97",after:=#[{ on:=7,ground:=.data },{ on:=18,ground:=.data }],guard:=none }) (v:=?vs19) rfl qh qh qh (fun _ _ _ h=>h) (Or.inl ⟨by rfl,?hys19⟩) qp ?rests19
    case hys19=>(intro w h0;(try dsimp only at h0);go_simp;try (with_reducible rfl))
    (try simp only[Act.put,asl])
    refine wpAnyH_done qh ?_ _
    have h4:=zae H2.out H2.out.size (zae hb h8 h3)
    go_wp2_with fail
    go_ret
    refine⟨?_,by first|exact h4|exact h4.drew⟩
    rw[zka (i:=i) qc (by rw[HE.out];have:=HP.out.2;simp[this])]
    simp
   ·rcases p with _|_
    all_goals
     go_wp2
     go_region_held3 (fun w'=>(w'.cell? (O b (off+i * 3))=some (J x)/\w'.cell? (O b (off+i * 3+1))=some (J k)/\w'.cell? (O b (off+i * 3+2))=some (J l))/\w'.cell? (xC w 0)=some (J wd)/\w'.cell? (xC w 1)=some (.slice g n gc))
      (first
       | exact⟨⟨zaa h3 x0,zaa h3 x1,zaa h3 x2⟩,zaa h3 c0,zaa h3 c1⟩
       | exact⟨⟨x0,x1,x2⟩,c0,c1⟩
       | go_keep)
      (first
       | (go_at_call 60;refine(h9 _).mono ?_;rintro e w7 ⟨rfl,hb7'⟩;have h3:xE wo w7:=(by first|exact hb7'|exact zcq hb7'))
       | (go_at_call 61;refine(hL _).mono ?_;rintro e w8 ⟨rfl,rfl⟩)
       | fail)
    ·have h4:=zae H2.out H2.out.size (zae hb h8 h3)
     go_wp2_with fail
     go_ret
     refine⟨?_,by first|exact h4|exact h4.drew⟩
     rw[zka (i:=i) qc (by rw[HE.out];have:=HP.out.1;simp[this])]
     simp
    ·have h4:=zae hb h8 h3
     go_wp2_with fail
     go_roundw
     case rel =>
      refine⟨i+1,qg,by go_num,fun j hj=>?_,by first|exact h4|exact h4.drew⟩
      rcases Nat.lt_succ_iff_lt_or_eq.1 hj with z|rfl
      ·exact HSame.out j z
      ·rw[HE.out];have:=HP.out;simp[this.1,this.2]
     case measure=>exact qe
  ·have hl:¬ (i:Int)<(N:Int):=qg
   have hg:=zae H2.out H2.out.size hb
   go_wp2_with fail
   go_ret
   refine⟨?_,hg⟩
   have e1:ziy n es=true:=zlz fun j hj=>HSame.out j qc
   rw[e1]
   simp[HS.out]
theorem zmD(a:Od)(cap:Nat)(xs:List Int)(x:Int)(w:World)(h:zcA w a xs)(hm:xs.length<=1048576) :
  Calls SqP.prog 52 #[.slice a xs.length cap,J x] w (xB w (.bool (decide (x∈xs)))):=by
 obtain⟨N,hN⟩:∃ N,xs.length=N:=⟨_,rfl⟩
 have HN:Hid (xs.length=N):=hN
 rw[hN] at hm ⊢
 clear hN
 go_enter (zfx func52),ntmps52
 go_wp2_with fail
 go_loopw [5] (fun ii wr=>∃ i:Nat,i<=N/\ii=J i/\(∀ j,j<i->¬ xs.getD j 0=x)/\xE w wr) (fun ii _=>N - (intOf ii).toNat)
 case atStart=>exact⟨0,Nat.zero_le _,rfl,fun j h=>qg,Below.refl _ _⟩
 case round =>
  rename World=>wo
  obtain⟨i,hi,rfl,h0,hb⟩:=hrel
  have HNE:Hid (∀ j,j<i->¬ xs.getD j 0=x):=h0
  clear h0
  by_cases hlt:i<N
  ·obtain⟨g,o,rfl,_,x0⟩:=(h.below hb).at (i:=i) qa
   have h2:(i:Int)<(N:Int):=qg
   have wk:IntKind.i64.wrap ((i:Int)+1)=(i:Int)+1:=IntWalk.i64_in _ qg
   obtain⟨v,ev⟩:∃ v,xs.getD i 0=v:=⟨_,rfl⟩
   have HV:Hid (xs.getD i 0=v):=ev
   rw[ev] at x0
   clear h ev
   by_cases hv:v=x
   ·have bl:(v == x)=true:=by simp[hv]
    have HX:Hid (x∈xs):=by
     have h1:i<xs.length:=qa
     have e2:xs[i]=x:=by
      have q:=HV.o
      simp only[List.getD,List.getElem?_eq_getElem h1,Option.getD_some] at q
      rw[q,hv]
     exact e2 ▸ List.getElem_mem h1
    have HVX:Hid (v=x):=hv
    clear hv
    go_wp2_with fail
    go_ret
    exact⟨by simp[HX.o],hb⟩
   ·have bl:(v == x)=false:=by simp[hv]
    have HVX:Hid (¬ v=x):=hv
    clear hv
    go_wp2_with fail
    go_roundw
    case rel =>
     refine⟨i+1,qg,by go_num,fun j hj=>?_,hb⟩
     rcases Nat.lt_succ_iff_lt_or_eq.1 hj with q|rfl
     ·exact HNE.o j q
     ·rw[HV.o];exact HVX.o
    case measure=>exact qe
  ·have h3:¬ (i:Int)<(N:Int):=qg
   have HX:Hid (¬ x∈xs):=fun hx=>by
    obtain⟨j,hj,e⟩:=List.getElem_of_mem hx
    refine HNE.o j qa ?_
    simp[List.getD,hj,e]
   clear h
   go_wp2_with fail
   go_ret
   exact⟨by simp[HX.o],hb⟩
def zbC(fs:List (List Int)):Nat->Int->List Int
 | 0,_=>[]
 | k+1,x=>if x∈fs.getD k [] then zbC fs k x++[(k:Int)] else zbC fs k x
theorem zdK(fs:List (List Int))(x:Int):∀ k,(zbC fs k x).length<=k
 | 0=>Nat.le_refl _
 | k+1=>by
  have:=zdK fs x k
  unfold zbC
  split
  ·simp;omega
  ·omega
theorem zhu(fs:List (List Int))(x:Int):∀ k,(∀ j,j<k->(fs.getD j []).Nodup)->tch fs k x=zbC fs k x
 | 0,_=>rfl
 | k+1,h=>by
  have ih:=zhu fs x k (fun j hj=>h j qg)
  have hn:=h k qg
  unfold tch zbC zjS
  rw[ih]
  have key:∀ l:List Int,l.Nodup->(l.filter fun y=>y == x).map (fun _=>(k:Int))=if x∈l then [(k:Int)] else []:=by
   intro l
   induction l with
   | nil=>intro _;rfl
   | cons y l ih =>
    intro hl
    obtain⟨h1,h2⟩:=List.nodup_cons.1 hl
    by_cases q:y=x
    ·subst q
     have:l.filter (fun z=>z == y)=[]:=List.filter_eq_nil_iff.2 fun z hz e=>h1 (by rw[<- (by simpa using e:z=y)];exact hz)
     simp[this]
    ·have q':¬ x=y:=fun e=>q e.symm
     have e2:=ih h2
     simp only[List.filter_cons,List.mem_cons,q',false_or]
     rw[if_neg (by simpa using q)]
     exact e2
  rw[key _ hn]
  split
  ·rfl
  ·simp
theorem zoJ:(SqP.prog.info? 3).map (fun i=>(i.zero,i.size,i.bytes))=some (some (J 0),1,8):=qh
theorem zi8(wd x:Int)(g l a:Od)(gc lc cap n p:Nat)(fs:List (List Int))(w:World)(h:zc7 w a fs)(hs:zhA fs) :
  Calls SqP.prog 29 #[.agg (xH wd g n gc l p lc a fs.length cap),J x] w fun e w'=>∃ v,e=.returned v/\zaL w' w.heap.size v (zbC fs fs.length x)/\xE w w':=by
 obtain⟨i0,hi,iz0,iz1,iz2⟩:=info_parts zoJ
 obtain⟨w2,h2⟩:∃ w2,w2=w.alloc (.cells (xH wd g n gc l p lc a fs.length cap) 35):=⟨_,rfl⟩
 obtain⟨x1,h5⟩:=zbw (.cells (xH wd g n gc l p lc a fs.length cap) 35) w
 rw[<- h2] at x1 h5
 have hj:w2.heap.size=w.heap.size+1:=by rw[h2];simp
 have h7:xE w2 (w2.alloc (.cells #[] 3)):=(Below.refl _ _).alloc (Nat.le_refl _) _
 have hO:zaL (w2.alloc (.cells #[] 3)) (w.heap.size+1) (.slice (xA w2.heap.size) 0 0) [] :=
  ⟨rfl,Or.inr ⟨w2.heap.size,0,#[],rfl,qg,heap_alloc_new w2 _,Nat.le_refl _,qs,rfl,rfl⟩⟩
 have h8:=zae h5 h5.size h7
 obtain⟨N,hN⟩:∃ N,fs.length=N:=⟨_,rfl⟩
 have HN:Hid (fs.length=N):=hN
 have HS:Hid (zhA fs):=hs
 have hm:=hs.1
 rw[hN] at hm x1 h2 ⊢
 have c3:=zaa h7 (zav x1).2.2.2
 clear hN hs x1 h7 h5
 go_enter (zfx func29),ntmps29
 go_upto_region 1 with fail
 rw[<- h2]
 clear h2
 go_wp2_with fail
 obtain⟨w3,h9⟩:∃ w3,w3=w2.alloc (.cells #[] 3):=⟨_,rfl⟩
 rw[hj] at hO
 rw[<- h9] at hO h8 c3 ⊢
 clear h9
 go_loopw [5,6] (fun oo ii wr=>∃ i:Nat,i<=N/\ii=J i/\zaL wr (w.heap.size+1) oo (zbC fs i x)/\wr.cell? (xC w 3)=some (.slice a N cap)/\xE w wr) (fun _ ii _=>N - (intOf ii).toNat)
 case atStart=>exact⟨0,Nat.zero_le _,rfl,hO,c3,h8⟩
 case round =>
  rename World=>wo
  clear hO c3 h8
  obtain⟨i,hi',rfl,hO,c3,hb⟩:=hrel
  have hl:=hb.size
  by_cases hlt:i<N
  ·obtain⟨b,off,a',c',rfl,x0,hR⟩:=(h.below hb).at (k:=i) qa
   obtain⟨hp,_⟩:=HS.o.2 i qa
   have hz:(i:Int)<(N:Int):=qg
   have wk:IntKind.i64.wrap ((i:Int)+1)=(i:Int)+1:=IntWalk.i64_in _ qg
   have HT:Hid (zbC fs (i+1) x=if x∈fs.getD i [] then zbC fs i x++[(i:Int)] else zbC fs i x):=rfl
   have hf:=zdK fs x i
   obtain⟨pre,epre⟩:∃ pre,zbC fs i x=pre:=⟨_,rfl⟩
   rw[epre] at hO HT hf
   have hH:=zmD a' c' (fs.getD i []) x wo hR qg
   obtain⟨xs,ex⟩:∃ xs,fs.getD i []=xs:=⟨_,rfl⟩
   rw[ex] at x0 hR HT hH
   obtain⟨m,em⟩:∃ m,xs.length=m:=⟨_,rfl⟩
   rw[em] at x0 hH
   obtain⟨bb,eb⟩:∃ bb,decide (x∈xs)=bb:=⟨_,rfl⟩
   rw[eb] at hH
   have HB:Hid (decide (x∈xs)=bb):=eb
   clear h ex em hR hp epre eb
   go_wp2_with fail
   refine hH.mono ?_
   rintro e wp ⟨rfl,h6⟩
   replace hO:=(show zaL wp (w.heap.size+1) _ pre from zaV hO h6)
   replace c3:=zaa h6 c3
   replace hb:=zae hb hl h6
   have hD:=hb.size
   have hq:w.heap.size<wp.heap.size:=World.block_lt_of_cell? _ _ c3
   clear h6 hH
   rcases bb with _|_
   ·have HT2:Hid (zbC fs (i+1) x=pre):=by
     show _=_
     rw[HT.o,if_neg (of_decide_eq_false HB.o)]
    go_wp2_with fail
    go_roundw
    case rel=>exact⟨i+1,qg,by go_num,by rw[HT2.o];exact hO,c3,hb⟩
    case measure=>exact qe
   ·have HT2:Hid (zbC fs (i+1) x=pre++[(i:Int)]):=by
     show _=_
     rw[HT.o,if_pos (of_decide_eq_true HB.o)]
    go_wp2_with (at_builtin;refine wpList_append_lies _ rfl _ _ _ rfl (w.heap.size+1) 3 i0 (J 0) 1 8 SqP.underlying25 hi iz0 iz1 iz2 rfl qg _ pre.length (zaG pre) rfl (World.ownsRow.alloc hO _) (xC wp 0) 1 1 [J i] rfl rfl (World.news_of_block (cs:=#[J i]) (t:=3) (fr:=(0,0)) (heap_alloc_new wp _)) qo qg qs qg qn (wp.heap.size+1) qm ?_)
    intro g6 k6 w6 he h0 hg hA
    have h1:xE wp (wp.alloc (.cells #[J i] 3)):=(Below.refl _ _).alloc (Nat.le_refl _) _
    have h3:=fun k q=>(World.ownsRow.lt hO k q).1
    have hu:=h0.size
    simp at hu
    have hw:xE w w6:=by
     refine⟨(h0.os.trans h1.os).trans hb.os,(h0.tape.trans h1.tape).trans hb.tape,(h0.output.trans h1.output).trans hb.output,qg,fun k hk=>?_⟩
     rw[h0.block k qn (fun q=>by have:=h3 k q.symm;omega),h1.block k qg]
     exact hb.block k hk
    have h4:w6.heap[w.heap.size]?=wp.heap[w.heap.size]?:=by
     rw[h0.block _ qn (fun q=>by have:=h3 _ q.symm;omega),h1.block _ hq]
    have q3:w6.cell? (xC w 3)=some (.slice (some (O b off)) N cap):=by rw[World.cell?_of_block (w:=wp) h4];exact c3
    have hy:zaL w6 (w.heap.size+1) (.slice (xA g6) (pre.length+1) k6) (pre++[(i:Int)]):=by
     unfold zaL
     rw[show (pre++[(i:Int)]).length=pre.length+1 by simp]
     have e:zaG (pre++[(i:Int)])=zaG pre++[J i]:=by simp[zaG]
     rw[e]
     exact he
    clear he h0 hg hb hO h1 h3 c3 h4
    go_wp2_with fail
    go_roundw
    case rel=>exact⟨i+1,qg,by go_num,by rw[HT2.o];exact hy,q3,hw⟩
    case measure=>exact qe
  ·have hE:¬ (i:Int)<(N:Int):=qg
   obtain rfl:i=N:=qg
   clear h
   go_wp2_with fail
   go_ret
   exact⟨_,rfl,zaw hO qg,hb⟩
end Sp
namespace Sp
open Go.RowKit Go.Maps
attribute [local go_sem ↓] Go.wp_at_zero Go.wp_at_succ
def zbD(wd:Int)(cs:Lp):Nat:=(zbV wd cs).toNat
def zh5(wd:Int)(cs:Lp):List Int:=(List.range (zbD wd cs)).map fun (j:Nat)=>zaU wd cs (j:Int)
def zhO(wd:Int)(cs:Lp):List (List Int):=(List.range (zbD wd cs)).map fun (j:Nat)=>zaA wd cs (j:Int)
theorem zkv(wd:Int)(cs:Lp):(zh5 wd cs).length=zbD wd cs:=by simp[zh5]
theorem zdc(wd:Int)(cs:Lp):(zhO wd cs).length=zbD wd cs:=by simp[zhO]
theorem zhP{k:Nat}(h:k<zbD wd cs):(zhO wd cs).getD k []=zaA wd cs (k:Int):=by simp[zhO,h]
theorem zot(wd:Int)(cs:Lp)(k:Int):(zaA wd cs k).Pairwise (· < ·):=by
 unfold zaA zaK
 rw[List.pairwise_map]
 refine List.Pairwise.imp (R:=(· < ·)) (fun h=>qg) ?_
 exact List.Pairwise.sublist List.filter_sublist List.pairwise_lt_range
theorem zkj(wd:Int)(cs:Lp)(k:Int):(zaA wd cs k).Nodup:=(zot wd cs k).imp fun h e=>by omega
theorem zqK{k x:Int}(h:x∈zaA wd cs k):0<=x/\x<(cs.length:Int):=by
 unfold zaA zaK at h
 simp only[List.mem_map,List.mem_filter,List.mem_range] at h
 obtain⟨i,⟨h1,_⟩,rfl⟩:=h
 omega
theorem zdk(h:okG wd cs=true):cs.length<=25/\0<cs.length/\zbD wd cs<=20/\zbV wd cs=(zbD wd cs:Int):=by
 obtain⟨W,H,S⟩:=zc3 h
 have hn:cs.length<=25:=by rw[S.el];exact Nat.le_trans (Nat.mul_le_mul S.hW.2 S.hH.2) qg
 have hp:0<cs.length:=by rw[S.el];exact Nat.mul_pos (by have:=S.hW;omega) (by have:=S.hH;omega)
 have e:=S.em
 have:=S.hW
 have:=S.hH
 have q:zbD wd cs=2 * (W+H):=by unfold zbD;omega
 exact⟨hn,hp,qg,qg⟩
theorem zke(h:okG wd cs=true):zhA (zhO wd cs):=by
 obtain⟨h1,h2,h3,h4⟩:=zdk h
 refine⟨by rw[zdc];omega,fun k hk=>?_⟩
 rw[zdc] at hk
 rw[zhP hk]
 refine⟨Nat.le_trans (zeO _ _) qg,fun j hj=>?_⟩
 have hm:(zaA wd cs (k:Int)).getD j 0∈zaA wd cs (k:Int):=by
  simp only[List.getD,List.getElem?_eq_getElem hj,Option.getD_some]
  exact List.getElem_mem hj
 have:=zqK hm
 omega
def zii(wd:Int)(cs:Lp)(ls:List Int)(fs:List (List Int)):Bool:=okG wd cs && decide (ls=zh5 wd cs) && decide (fs=zhO wd cs)
theorem zij(h:zii wd cs ls fs=true):okG wd cs=true/\ls=zh5 wd cs/\fs=zhO wd cs:=by
 unfold zii at h
 simp only[Bool.and_eq_true,decide_eq_true_eq] at h
 exact⟨h.1.1,h.1.2,h.2⟩
theorem zm0(l:List Int):(List.range l.length).map (fun i=>l.getD i 0)=l:=by
 refine List.ext_getElem qm fun i h1 h2=>?_
 simp[List.getD,h2]
theorem zl1(wd:Int)(cs:Lp)(ls:List Int)(fs:List (List Int))(hS:zc8 cs ls fs) :
  (∀(g l f:Od) (gc lc fc:Nat) (w:World),ScM w g l f cs ls fs->Calls SqP.prog 33 #[.agg (xH wd g cs.length gc l ls.length lc f fs.length fc)] w (xB w (.bool (zii wd cs ls fs)))) /\
  (∀(g l f:Od) (gc lc fc:Nat) (w:World),ScM w g l f cs ls fs->Calls SqP.prog 28 #[.agg (xH wd g cs.length gc l ls.length lc f fs.length fc)] w (xB w (.bool (zii wd cs ls fs)))):=by
 rcases hk:okG wd cs with _|_
 ·have e:zii wd cs ls fs=(false && decide (ls=(List.range 0).map fun _=>(0:Int)) && decide (fs=(List.range 0).map fun (k:Nat)=>(List.range ((fun (_:Nat)=>0) k)).map ((fun (_ _:Nat)=>(0:Int)) k))):=by simp[zii,hk]
  rw[e]
  exact⟨fun g l' f' gc lc fc w h=>zdg wd g l' f' gc lc fc cs ls fs w h.1 h.2.1 h.2.2 hS qm qm qg (fun k hk=>by simp at hk) (fun a cap w h=>(zl0 wd a cap cs w h (by have:=hS.1;omega) hk).mono fun e w' q=>zhH (zr7 q.1 q.2)),
   fun g l' f' gc lc fc w h=>zdr wd g l' f' gc lc fc cs ls fs w h.1 h.2.1 h.2.2 hS qm qm qg (fun k hk=>by simp at hk) (fun a cap w h=>(zgj wd a cap cs w h hS.1 hk).mono fun e w' q=>zhH (zr7 q.1 q.2))⟩
 ·obtain⟨W,H,S⟩:=zc3 hk
  obtain⟨hn,hp,h0,h1⟩:=zdk hk
  have hM:2 * (W+H)=zbD wd cs:=by have:=S.em;unfold zbD;omega
  have e:zii wd cs ls fs=(true && decide (ls=(List.range (zbD wd cs)).map fun (j:Nat)=>zaU wd cs (j:Int)) && decide (fs=(List.range (zbD wd cs)).map fun (k:Nat)=>(List.range (zaA wd cs (k:Int)).length).map ((fun (j i:Nat)=>(zaA wd cs (j:Int)).getD i 0) k))):=by
   have q:((List.range (zbD wd cs)).map fun (k:Nat)=>(List.range (zaA wd cs (k:Int)).length).map ((fun (j i:Nat)=>(zaA wd cs (j:Int)).getD i 0) k))=zhO wd cs:=by
    unfold zhO
    refine List.map_congr_left fun k _=>zm0 _
   rw[q]
   unfold zii
   rw[hk]
   rfl
  have hx:∀ k,k<((List.range (zbD wd cs)).map fun (k:Nat)=>(List.range (zaA wd cs (k:Int)).length).map ((fun (j i:Nat)=>(zaA wd cs (j:Int)).getD i 0) k)).length->(((List.range (zbD wd cs)).map fun (k:Nat)=>(List.range (zaA wd cs (k:Int)).length).map ((fun (j i:Nat)=>(zaA wd cs (j:Int)).getD i 0) k)).getD k []).length<=1048576:=fun k hk=>by
   have hk':k<zbD wd cs:=by simpa using hk
   have:(zaA wd cs (k:Int)).length<=cs.length:=zeO _ _
   simp[hk']
   omega
  rw[e]
  exact⟨fun g l' f' gc lc fc w h=>zdg wd g l' f' gc lc fc cs ls fs w h.1 h.2.1 h.2.2 hS qm qm h0 hx (fun a cap w h=>(zpt wd a cap cs w h hn hp hk (zbD wd cs) (by rw[h1]) h0).mono fun e w' ⟨gc,bl,bf,arrL,arrF,xs,q1,q2⟩=>zhH (znR q2.toS q1)),
   fun g l' f' gc lc fc w h=>zdr wd g l' f' gc lc fc cs ls fs w h.1 h.2.1 h.2.2 hS qm qm h0 hx (fun a cap w h=>(zfe S a cap w h).mono fun e w' ⟨gc,c,bl,bf,arrL,arrF,xs,q1,q2⟩=>zhH (znR (by rw[<- hM];exact q2) (by rw[<- hM];exact q1)))⟩
theorem zfq(w:World)(B:Nat):zaL w B (.slice none 0 0) []:=World.ownsRow_nil _ _ _ _
end Sp
namespace Sp
open Go.RowKit
attribute [local go_sem ↓] Go.wp_at_zero Go.wp_at_succ
theorem zfu{n:Nat->Nat}{M:Nat}(h:∀ k,k<M->n k<=1048576):∀ i,i<=M->zca n i<=i * 1048576
 | 0,_=>by simp[zca]
 | i+1,hi=>by
  have:=zfu h i qg
  have:=h i qg
  simp only[zca]
  omega
theorem zhd(k0:Int)(a:Od)(n cap:Nat)(f:Nat->Int)(w:World)(h:RI w a (n * 1) f)(hm:n<=1048576)(h5:0<=k0/\k0<=4611686018427387904) :
  Calls SqP.prog 13 #[.slice a n cap,J k0] w fun e w'=>e=.returned (J (k0+1 * (n:Int)))/\RI w' a (n * 1) (fun j=>k0+(j:Int))/\w.grownBy w' (Value.slice a n cap).ownBlock:=by
 go_enter (zfx func13),ntmps13
 go_wp2_with fail
 go_loopw [1,5] (fun v ii wr=>∃ i:Nat,i<=n/\ii=J i/\v=J (k0+1 * (i:Int))/\RI wr a (n * 1) (fun j=>if j<i * 1 then k0+(j:Int) else f j)/\w.grownBy wr (Value.slice a n cap).ownBlock) (fun _ ii _=>n - (intOf ii).toNat)
 case atStart=>exact⟨0,Nat.zero_le _,rfl,qm,h.like (fun j _=>qm),World.grownBy.refl _ _⟩
 case round =>
  rename World=>wo
  obtain⟨i,hi,rfl,rfl,hR,hg⟩:=hrel
  by_cases hlt:i<n
  ·obtain⟨g,ea,h6,hc⟩:=hR.at qg
   subst ea
   have h7:(i:Int)<(n:Int):=qg
   obtain⟨c0,z0⟩:=hc (i) qg
   obtain⟨u0,eu0⟩:∃ u,(if i<i * 1 then k0+((i:Nat):Int) else f (i))=u:=⟨_,rfl⟩
   simp only[eu0] at c0
   have h1:RI (wo.setCell (O g i) (J (k0+(i:Int)))) (xA g) (n * 1) (fun j=>if j<i * 1+1 then k0+(j:Int) else f j):=hR.put (i) (k0+(i:Int)) qg (by rw[if_pos qg];try omega) (fun j hj h0=>by by_cases z:j<i * 1;rw[if_pos qg,if_pos qg];rw[if_neg qg,if_neg qg])
   have h2:w.grownBy (wo.setCell (O g i) (J (k0+(i:Int)))) (Value.slice (xA g) n cap).ownBlock:=⟨hg.os,hg.tape,hg.output,by simpa using hg.size,fun j hj h0=>by
    have h3:j≠g:=fun e=>h0 (by simp[Value.ownBlock,e])
    rw[Below.heap_setCell _ _ _ _ h3]
    exact hg.block j hj h0⟩
   have HF:Hid (RI (wo.setCell (O g i) (J (k0+(i:Int)))) (xA g) (n * 1) (fun j=>if j<(i+1) * 1 then k0+(j:Int) else f j)):=h1.like (fun j _=>by rw[show (i+1) * 1=i * 1+1 by omega])
   clear hc hR h1 eu0
   go_wp2_with fail
   go_roundw
   case rel=>exact⟨i+1,qg,by go_num,by go_num,HF.o,h2⟩
   case measure=>exact qe
  ·have h4:i=n:=qg
   subst h4
   go_wp2_with fail
   go_ret
   exact⟨rfl,hR.like (fun j hj=>by rw[if_pos hj]),hg⟩
theorem zkA(k0:Int)(hf:0<=k0/\k0<=1099511627776)(a:Od)(c M lo hi:Nat)(ad:Nat->Od)(n cp:Nat->Nat)(f:Nat->Nat->Int)(w:World)(h:zbk w lo hi a M ad n cp f)(hm:M<=1048576)(hn:∀ k,k<M->n k<=1048576) :
  Calls SqP.prog 38 #[.slice a M c,J k0] w fun e w'=>e=.returned (J (k0+(zca n M:Int)))/\zbk w' lo hi a M ad n cp (fun k j=>k0+(zca n k:Int)+(j:Int))/\zaQ (za1 M ad) w w':=by
 go_enter (zfx func38),ntmps38
 go_wp2_with fail
 go_loopw [1,5] (fun v ii wr=>∃ i:Nat,i<=M/\ii=J i/\v=J (k0+(zca n i:Int))/\zbk wr lo hi a M ad n cp (fun k j=>if k<i then k0+(zca n k:Int)+(j:Int) else f k j)/\zaQ (za1 M ad) w wr) (fun _ ii _=>M - (intOf ii).toNat)
 case atStart=>exact⟨0,Nat.zero_le _,rfl,by simp[zca],by simpa using h,zaQ.refl _ _⟩
 case round =>
  rename World=>wo
  obtain⟨i,hi',rfl,rfl,hR,h2⟩:=hrel
  by_cases hlt:i<M
  ·rcases hR with q|⟨b,rfl,hy⟩
   ·omega
   have x0:=hy.cell i hlt
   have r0:=hy.row i hlt
   have he:(i:Int)<(M:Int):=qg
   have wk:IntKind.i64.wrap ((i:Int)+1)=(i:Int)+1:=IntWalk.i64_in _ qg
   have h6:=zfu hn i qg
   have hg:=hn i hlt
   obtain⟨p,hp⟩:∃ p,zca n i=p:=⟨_,rfl⟩
   rw[hp] at h6 ⊢
   have HP:Hid (zca n i=p):=hp
   have HP1:Hid (zca n (i+1)=p+n i):=by rw[<- hp];exact(rfl:zca n (i+1)=zca n i+n i)
   clear hp h
   go_wp2_with fail
   refine(zhd (k0+(p:Int)) (ad i) (n i) (cp i) _ _ r0 qg qg).mono ?_
   rintro e w7 ⟨rfl,h4,h3⟩
   have h0:∀ b',(Value.slice (ad i) (n i) (cp i)).ownBlock=some b'->∃ x,ad i=some x/\b'=x.block:=fun b' q=>by
    rcases e:ad i with _|x
    ·rw[e] at q;exact absurd q (by simp[Value.ownBlock])
    ·rw[e] at q
     simp only[Value.ownBlock,Option.some.injEq] at q
     exact⟨x,rfl,q.symm⟩
   have h1:=(zaQ.refl (fun e=>∃ x,ad i=some x/\e=x.block) wo).grown h3 h0
   have h5:=h2.grown h3 (fun b' q=>by obtain⟨x,q1,q2⟩:=h0 b' q;exact⟨i,x,hlt,q1,q2⟩)
   have h7:znN w7 lo hi b M ad n cp (fun k j=>if k<i+1 then k0+(zca n k:Int)+(j:Int) else f k j):=by
    refine⟨hy.out,fun k hk=>h1.cell (fun ⟨x,q1,q2⟩=>(hy.lt i x hlt q1).2 q2.symm) (hy.cell k hk),fun k hk=>?_,hy.lt,hy.inj,Nat.le_trans hy.top h1.size⟩
    by_cases e:k=i
    ·subst e
     refine h4.like fun j hj=>?_
     rw[if_pos qg,HP.o]
    ·refine((hy.row k hk).offN h1 (fun x q ⟨x',q1,q2⟩=>e (hy.inj k i x x' hk hlt q q1 q2))).like fun j hj=>?_
     by_cases e2:k<i
     ·rw[if_pos qg,if_pos e2]
     ·rw[if_neg qg,if_neg e2]
   have hv:(k0+(p:Int))+1 * (n i:Int)=k0+(zca n (i+1):Int):=by rw[HP1.o];omega
   rw[hv]
   clear hy h2 h4 h3 h1 hv h0
   go_wp2_with fail
   go_roundw
   case rel=>exact⟨i+1,qg,by go_num,rfl,.inr ⟨b,rfl,h7⟩,h5⟩
   case measure=>exact qe
  ·have h8:i=M:=qg
   subst h8
   have hl:¬ (i:Int)<(i:Int):=qg
   have h9:zbk wo lo hi a i ad n cp (fun k j=>k0+(zca n k:Int)+(j:Int)):=by
    rcases hR with q|⟨b,e,hy⟩
    ·exact .inl q
    ·exact .inr ⟨b,e,hy.out,hy.cell,fun k hk=>(hy.row k hk).like fun j hj=>by rw[if_pos hk],hy.lt,hy.inj,hy.top⟩
   clear hR h
   go_wp2_with fail
   go_ret
   exact⟨rfl,h9,h2⟩
theorem zf5(wd k0 k1 k2 k3:Int)(cs:Lp)(P R B:Nat)(ga la fa:Od)(gc lc fc lo hi:Nat)(ad:Nat->Od)(n cp:Nat->Nat)(l:Nat->Int)(f:Nat->Nat->Int)(w:World)(e1:k1=k0+2 * (cs.length:Int))(e2:k2=k1+1 * (P:Int))(e3:k3=k2+(zca n R:Int))(hp:0<=k0/\k0<=1000)(hg:Own w B (.slice ga cs.length gc) cs)(hl:RI w la (P * 1) l)(hf:zbk w lo hi fa R ad n cp f)(hm:cs.length<=1048576)(hP:P<=1048576)(hM:R<=1048576)(hn:∀ k,k<R->n k<=1048576)(hA:zfy w.heap.size ga la fa R ad) :
  Calls SqP.prog 12 #[.agg (xH wd ga cs.length gc la P lc fa R fc),J k0] w fun e w'=>e=.returned (J k3)/\Own w' B (.slice ga cs.length gc) (marks k0 cs.length)/\RI w' la (P * 1) (fun j=>k1+(j:Int))/\zbk w' lo hi fa R ad n cp (fun k j=>k2+(zca n k:Int)+(j:Int))/\zaQ (fun e=>zaC ga e\/zaC la e\/za1 R ad e) w w':=by
 obtain⟨w2,h3⟩:∃ w2,w2=w.alloc (.cells (xH wd ga cs.length gc la P lc fa R fc) 35):=⟨_,rfl⟩
 have H2:Hid (zcO w w2 [(w.heap.size,.cells (xH wd ga cs.length gc la P lc fa R fc) 35)]):=by
  rw[h3]
  have h1:zcO w w []:=⟨Below.refl _ _,(fun _ h=>nomatch h),List.nodup_nil⟩
  exact h1.made _
 have h0:=H2.o.below
 have h2:∀ e,zaC ga e\/zaC la e\/za1 R ad e->w.heap.size≠e:=fun e h q=>by have:=hA.lt e h;omega
 have h9:0<=k1/\k1<=4611686018427387904:=qg
 have he:0<=k2/\k2<=1099511627776:=qg
 have h4:Own w2 B (.slice ga cs.length gc) cs:=zes (S:=fun _=>False) hg (zaQ.of h0) (fun _ _ h=>h)
 have hG:=(zjj (aLt:=Sq.altP)) wd k0 B (.slice ga cs.length gc) cs w2 h4 qg qg
 rw[<- e1] at hG
 have hL:=fun w=>zhd k1 la P lc l w
 rw[<- e2] at hL
 have hF:=fun w h=>zkA k2 he fa fc R lo hi ad n cp f w h hM hn
 rw[<- e3] at hF
 have HL:Hid (RI w2 la (P * 1) l):=hl.below h0
 have HF:Hid (zbk w2 lo hi fa R ad n cp f):=hf.below h0
 clear hg hl hf e1 e2 e3 h4
 go_enter (zfx func12),ntmps12
 go_upto_region 1 with fail
 rw[<- h3]
 clear h3
 have c0:w2.cell? (xC w 0)=some (J wd):=(cell_of_row _ _ 0 _ _ _ (H2.o.lies (w.heap.size,.cells (xH wd ga cs.length gc la P lc fa R fc) 35) qm).1).trans rfl
 have c1:w2.cell? (xC w 1)=some (.slice ga cs.length gc):=(cell_of_row _ _ 1 _ _ _ (H2.o.lies (w.heap.size,.cells (xH wd ga cs.length gc la P lc fa R fc) 35) qm).1).trans rfl
 have c2:w2.cell? (xC w 2)=some (.slice la P lc):=(cell_of_row _ _ 2 _ _ _ (H2.o.lies (w.heap.size,.cells (xH wd ga cs.length gc la P lc fa R fc) 35) qm).1).trans rfl
 have c3:w2.cell? (xC w 3)=some (.slice fa R fc):=(cell_of_row _ _ 3 _ _ _ (H2.o.lies (w.heap.size,.cells (xH wd ga cs.length gc la P lc fa R fc) 35) qm).1).trans rfl
 have K2:Hid (w2.cell? (xC w 0)=some (J wd)/\w2.cell? (xC w 1)=some (.slice ga cs.length gc)/\w2.cell? (xC w 2)=some (.slice la P lc)/\w2.cell? (xC w 3)=some (.slice fa R fc)):=⟨c0,c1,c2,c3⟩
 go_wp2_with fail
 refine hG.mono ?_
 rintro e w3 ⟨rfl,h5,h6⟩
 have o3:=(zaQ.refl (zaC ga) w2).grown h6 (fun b q=>zci q)
 have HO3:Hid (Own w3 B (.slice ga cs.length gc) (marks k0 cs.length)):=h5
 have HL3:Hid (RI w3 la (P * 1) l):=HL.o.offN o3 (fun x q h=>hA.gl _ h ⟨x,q,rfl⟩)
 have HF3:Hid (zbk w3 lo hi fa R ad n cp f):=HF.o.offS o3 (fun x q h=>hA.gf _ h ⟨x,q,rfl⟩) (fun k x hk q h=>hA.gr _ h ⟨k,x,hk,q,rfl⟩)
 have nb3:¬ zaC ga w.heap.size:=fun h=>h2 _ (.inl h) rfl
 have nb4:¬ zaC la w.heap.size:=fun h=>h2 _ (.inr (.inl h)) rfl
 clear hG h5 h6 c0 c1 c2 c3
 have c2:=o3.cell nb3 K2.o.2.2.1
 have c3:=o3.cell nb3 K2.o.2.2.2
 have O3:Hid (zaQ (zaC ga) w2 w3):=o3
 clear o3
 go_wp2_with fail
 refine(hL w3 HL3.o qg h9).mono ?_
 rintro e w4 ⟨rfl,h7,h8⟩
 have o4:=(zaQ.refl (zaC la) w3).grown h8 (fun b q=>zci q)
 have HO4:Hid (Own w4 B (.slice ga cs.length gc) (marks k0 cs.length)):=zes HO3.o o4 (fun b q h=>hA.gl b (zci q) h)
 have HL4:Hid (RI w4 la (P * 1) (fun j=>k1+(j:Int))):=h7
 have HF4:Hid (zbk w4 lo hi fa R ad n cp f):=HF3.o.offS o4 (fun x q h=>hA.lf _ h ⟨x,q,rfl⟩) (fun k x hk q h=>hA.lr _ h ⟨k,x,hk,q,rfl⟩)
 have c3':=o4.cell nb4 c3
 have O4:Hid (zaQ (zaC la) w3 w4):=o4
 clear o4 h7 h8 c2 c3
 go_wp2_with fail
 refine(hF w4 HF4.o).mono ?_
 rintro e w5 ⟨rfl,hj,o5⟩
 have q1:=zes HO4.o o5 (fun b q h=>hA.gr b (zci q) h)
 have q2:=HL4.o.offN o5 (fun x q h=>hA.lr _ ⟨x,q,rfl⟩ h)
 have q3:zaQ (fun e=>zaC ga e\/zaC la e\/za1 R ad e) w w5:=(((zaQ.of h0).trans (O3.o.imp fun _ h=>.inl h)).trans (O4.o.imp fun _ h=>.inr (.inl h))).trans (o5.imp fun _ h=>.inr (.inr h))
 clear o5 c3'
 go_wp2_with fail
 go_ret
 exact⟨rfl,q1,q2,hj,q3⟩
theorem ScN.on2{g1 g2 g3:Nat}(h:ScN w lo g1 g2 g3 cs ls fs)(hb:xE w w'):ScN w' lo g1 g2 g3 cs ls fs:=h.move hb.size fun b _ q=>hb.block b q
def Row1(w:World)(lo hi:Nat)(a:Od)(n:Nat)(f:Nat->Int):Prop:=RI w a (n * 1) f/\∀ x,a=some x->lo<=x.block/\x.block<hi
theorem Row1.below{a:Od}(h:Row1 w lo hi a n f)(hb:xE w w'):Row1 w' lo hi a n f:=⟨h.1.below hb,h.2⟩
theorem Row1.off{S:Np}{a:Od}(h:Row1 w lo hi a n f)(ho:zaQ S w w')(hS:∀ e,lo<=e->e<hi->¬ S e):Row1 w' lo hi a n f :=
 ⟨h.1.offN ho fun x q=>hS _ (h.2 x q).1 (h.2 x q).2,h.2⟩
theorem zrk{v:Value}(h:zaL w B v xs):∃ a c,v=.slice a xs.length c/\Row1 w B w.heap.size a xs.length (fun i=>xs.getD i 0):=by
 obtain⟨a,c,h1,h2,h3⟩:=zcH h
 exact⟨a,c,h1,h2,fun x q=>World.ownsRow.lt h _ (h3 x q)⟩
