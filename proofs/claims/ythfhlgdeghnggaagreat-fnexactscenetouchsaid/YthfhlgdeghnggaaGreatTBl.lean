/- Part. -/
import Derived.Test.YthfhlgdeghnggaaGreatTBj
set_option maxHeartbeats 4000000
set_option linter.unusedVariables false
namespace Go.Proofs.YthfhlgdeghnggaaGreat
variable{ok:Bool}{wd wd':Int}{cs:List (Int × Int)}{F fs:List (List Int)}{L ls:List Int}{M:Nat}{l:Nat->Int}{n:Nat->Nat}{f:Nat->Nat->Int}{ad:Nat->Option Addr}{a:Option Addr}{w:World}
namespace Sp
open Go.RowKit
attribute [local go_sem ↓] Go.wp_at_zero Go.wp_at_succ
theorem zbr(o:Obj)(w:World):(w.alloc o).heap[w.heap.size]?=some o/\Below w.heap.size w (w.alloc o):=by
 refine⟨?_,bel⟩
 show (w.heap.push o)[w.heap.size]?=some o
 simp
theorem zk2{n:Nat}{f:Nat->Int}(h:RI w a (n * 1) f):zcP w a ((List.range n).map f):=by
 rcases Nat.eq_zero_or_pos n with rfl|hp
 ·exact .inl rfl
 ·obtain⟨g,rfl,hl,hc⟩:=h.at (by omega)
  refine .inr ⟨g,0,rfl,hl,fun i hi=>?_⟩
  have hi':i<n:=by simpa using hi
  rw[Nat.zero_add,(hc i (by omega)).1]
  simp[hi']
theorem zl5{lo hi:Nat}{cp:Nat->Nat}(h:zcB w lo hi a M ad n cp f):zde w a ((List.range M).map fun k=>(List.range (n k)).map (f k)):=by
 rcases h with rfl|⟨b,rfl,h⟩
 ·exact .inl rfl
 ·refine .inr ⟨b,0,rfl,nll h.out.2 h.top,fun k hk=>?_⟩
  have hk':k<M:=by simpa using hk
  have e:((List.range M).map fun k=>(List.range (n k)).map (f k)).getD k []=(List.range (n k)).map (f k):=by simp[hk']
  rw[e]
  refine⟨ad k,cp k,?_,zk2 (h.row k hk')⟩
  rw[Nat.zero_add,h.cell k hk']
  simp
def zsN(w:World)(wd:Int)(N M:Nat)(L:List Int)(F:List (List Int))(ok:Bool)(r:Ending)(w':World):Prop :=
 ∃ ga la fa gc lc fc,r=.returned (.tuple #[.agg #[.int .i64 wd,.slice ga N gc,.slice la M lc,.slice fa M fc],.bool ok])/\zcP w' la L/\zde w' fa F/\Below w.heap.size w w'
theorem zhk{r:Ending}{w':World}(h:zsO w wd cs M l n f ok r w'):zsN w wd cs.length M ((List.range M).map l) ((List.range M).map fun k=>(List.range (n k)).map (f k)) ok r w':=by
 obtain⟨ga,la,fa,gc,lc,fc,ad,cp,h1,_,h3,h4,_,_,h7⟩:=h
 exact⟨ga,la,fa,gc,lc,fc,h1,zk2 h3,zl5 h4,h7⟩
set_option maxRecDepth 100000 in
theorem zcZ(wd:Int)(g l f:Option Addr)(gc lc fc:Nat)(cs:List (Int × Int))(ls:List Int)(fs:List (List Int))(w:World)(hg:zak w g cs)(hl:zcP w l ls)(hf:zde w f fs)(hS:zdA cs ls fs){N':Nat}(hL:L.length=M)(hF:F.length=M)(hM:M<=20)(hx:∀ k,k<F.length->(F.getD k []).length<=1048576)(hC:∀(a:Option Addr) (cap:Nat) (w:World),zak w a cs->Calls SqP.prog 54 #[.agg #[.int .i64 wd,.slice a cs.length cap]] w (zsN w wd' N' M L F ok)) :
  Calls SqP.prog 33 #[.agg #[.int .i64 wd,.slice g cs.length gc,.slice l ls.length lc,.slice f fs.length fc]] w fun e w'=>e=.returned (.bool (ok && decide (ls=L) && decide (fs=F)))/\Below w.heap.size w w':=by
 obtain⟨w2,hw2⟩:∃ w2,w2=w.alloc (.cells #[.int .i64 wd,.slice g cs.length gc,.slice l ls.length lc,.slice f fs.length fc] 35):=⟨_,rfl⟩
 obtain⟨x1,hb2⟩:=zbr (.cells #[.int .i64 wd,.slice g cs.length gc,.slice l ls.length lc,.slice f fs.length fc] 35) w
 rw[<- hw2] at x1 hb2
 have H2:Hid (Below w.heap.size w w2):=hb2
 have X2:Hid (w2.heap[w.heap.size]?=some (.cells #[.int .i64 wd,.slice g cs.length gc,.slice l ls.length lc,.slice f fs.length fc] 35)):=x1
 have hN1:=hC g gc w2 (hg.below hb2)
 have HI:Hid ((zcP w l ls/\zde w f fs)/\zdA cs ls fs):=⟨⟨hl,hf⟩,hS⟩
 obtain⟨N,hN⟩:∃ N,cs.length=N:=⟨_,rfl⟩
 obtain⟨P,hP⟩:∃ P,ls.length=P:=⟨_,rfl⟩
 obtain⟨R,hR⟩:∃ R,fs.length=R:=⟨_,rfl⟩
 have HN:Hid ((ls.length=P/\fs.length=R)/\L.length=M/\F.length=M):=⟨⟨hP,hR⟩,hL,hF⟩
 have HX:Hid (∀ k,k<F.length->(F.getD k []).length<=1048576):=hx
 rw[hN] at hN1
 rw[hN,hP,hR] at X2 hw2 ⊢
 clear hC hg hl hf hS x1 hb2 hN hP hR hL hF hx
 go_enter SqP.func33,Tryz.ntmps33
 go_upto_region 1 with fail
 rw[<- hw2]
 clear hw2
 obtain⟨c0,c1,c2,c3⟩:=zcm X2.out
 go_wp2_with fail
 refine hN1.mono ?_
 rintro e w3 ⟨ga',la',fa',gc',lc',fc',rfl,hR1,hR2,hb3⟩
 have H3:Hid (Below w.heap.size w w3):=zaj H2.out H2.out.size hb3
 have hb4:Below w3.heap.size w3 (w3.alloc (.cells #[.int .i64 wd',.slice ga' N' gc',.slice la' M lc',.slice fa' M fc'] 35)):=bel
 have X4:Hid ((w3.alloc (.cells #[.int .i64 wd',.slice ga' N' gc',.slice la' M lc',.slice fa' M fc'] 35)).heap[w.heap.size]?=some (.cells #[.int .i64 wd,.slice g N gc,.slice l P lc,.slice f R fc] 35)/\(w3.alloc (.cells #[.int .i64 wd',.slice ga' N' gc',.slice la' M lc',.slice fa' M fc'] 35)).heap[w3.heap.size]?=some (.cells #[.int .i64 wd',.slice ga' N' gc',.slice la' M lc',.slice fa' M fc'] 35)):=⟨(hb4.block _ (gei ((hb3.block _ (gei X2.out).1).trans X2.out)).1).trans ((hb3.block _ (gei X2.out).1).trans X2.out),(zbr _ w3).1⟩
 have H4:Hid (Below w.heap.size w (w3.alloc (.cells #[.int .i64 wd',.slice ga' N' gc',.slice la' M lc',.slice fa' M fc'] 35))):=zaj H3.out H3.out.size hb4
 have HR:Hid (zcP (w3.alloc (.cells #[.int .i64 wd',.slice ga' N' gc',.slice la' M lc',.slice fa' M fc'] 35)) la' L/\zde (w3.alloc (.cells #[.int .i64 wd',.slice ga' N' gc',.slice la' M lc',.slice fa' M fc'] 35)) fa' F):=⟨hR1.below hb4,hR2.below hb4⟩
 clear c0 c1 c2 c3 hR1 hR2 hb3 hb4 hN1 X2 H2 H3
 go_upto_region 2 with fail
 obtain⟨w4,hw4⟩:∃ w4,w4=w3.alloc (.cells #[.int .i64 wd',.slice ga' N' gc',.slice la' M lc',.slice fa' M fc'] 35):=⟨_,rfl⟩
 rw[<- hw4] at X4 H4 HR ⊢
 clear hw4
 obtain⟨c0,c1,c2,c3⟩:=zcm X4.out.1
 obtain⟨d0,d1,d2,d3⟩:=zcm X4.out.2
 have hE:=zle l la' lc lc' ls L w4 (HI.out.1.1.below H4.out) HR.out.1 (by have:=HI.out.2.2.1;omega)
 rw[HN.out.1.1,HN.out.2.1] at hE
 have hF:∀ w5,Below w4.heap.size w4 w5->Calls SqP.prog 56 #[.slice f R fc,.slice fa' M fc',.func (.func 55) #[] #[]] w5 fun e w'=>e=.returned (.bool (decide (fs=F)))/\Below w5.heap.size w5 w':=fun w5 hb=>by
  have:=zou f fa' fc fc' fs F w5 ((HI.out.1.2.below H4.out).below hb) (HR.out.2.below hb) (by have:=HI.out.2.2.2.1;omega) (fun k hk=>by have:=HI.out.2.2.2.2 k hk;omega)
  rw[HN.out.1.2,HN.out.2.2] at this
  exact this
 have HF:Hid (∀ w5,Below w4.heap.size w4 w5->Calls SqP.prog 56 #[.slice f R fc,.slice fa' M fc',.func (.func 55) #[] #[]] w5 fun e w'=>e=.returned (.bool (decide (fs=F)))/\Below w5.heap.size w5 w'):=hF
 have HE:Hid (Calls SqP.prog 55 #[.slice l P lc,.slice la' M lc'] w4 fun e w'=>e=.returned (.bool (decide (ls=L)))/\Below w4.heap.size w4 w'):=hE
 clear hE hF HI HN HX HR X4
 rcases ok with _|_
 ·clear HE HF c0 c1 c2 c3 d0 d1 d2 d3
  go_wp2_with fail
  go_ret
  exact⟨by simp,H4.out⟩
 ·obtain⟨b1,eb1⟩:∃ b1,decide (ls=L)=b1:=⟨_,rfl⟩
  obtain⟨b2,eb2⟩:∃ b2,decide (fs=F)=b2:=⟨_,rfl⟩
  rw[eb1] at HE
  rw[eb2] at HF
  have HB:Hid (decide (ls=L)=b1/\decide (fs=F)=b2):=⟨eb1,eb2⟩
  clear eb1 eb2
  rcases b1 with _|_
  ·clear HF
   go_wp2_with fail
   refine HE.out.mono ?_
   rintro e w5 ⟨rfl,hb⟩
   have H5:Hid (Below w.heap.size w w5):=zaj H4.out H4.out.size hb
   clear c0 c1 c2 c3 d0 d1 d2 d3 hb
   go_wp2_with fail
   go_ret
   exact⟨by have h:=HB.out.1;simp[h],H5.out⟩
  ·go_wp2_with fail
   refine HE.out.mono ?_
   rintro e w5 ⟨rfl,hb⟩
   have H5:Hid (Below w.heap.size w w5):=zaj H4.out H4.out.size hb
   have hF5:=HF.out w5 hb
   replace c3:=zab hb c3;replace d3:=zab hb d3
   clear c0 c1 c2 d0 d1 d2 hb HE HF
   go_wp2_with fail
   refine hF5.mono ?_
   rintro e w6 ⟨rfl,hb⟩
   have H6:=zaj H5.out H5.out.size hb
   clear c3 d3 hb hF5
   go_wp2_with fail
   go_ret
   exact⟨by have h:=HB.out;simp[h.1,h.2],H6⟩
set_option maxRecDepth 100000 in
theorem zc7(wd:Int)(g l f:Option Addr)(gc lc fc:Nat)(cs:List (Int × Int))(ls:List Int)(fs:List (List Int))(w:World)(hg:zak w g cs)(hl:zcP w l ls)(hf:zde w f fs)(hS:zdA cs ls fs){N':Nat}(hL:L.length=M)(hF:F.length=M)(hM:M<=20)(hx:∀ k,k<F.length->(F.getD k []).length<=1048576)(hC:∀(a:Option Addr) (cap:Nat) (w:World),zak w a cs->Calls SqP.prog 50 #[.agg #[.int .i64 wd,.slice a cs.length cap]] w (zsN w wd' N' M L F ok)) :
  Calls SqP.prog 28 #[.agg #[.int .i64 wd,.slice g cs.length gc,.slice l ls.length lc,.slice f fs.length fc]] w fun e w'=>e=.returned (.bool (ok && decide (ls=L) && decide (fs=F)))/\Below w.heap.size w w':=by
 obtain⟨w2,hw2⟩:∃ w2,w2=w.alloc (.cells #[.int .i64 wd,.slice g cs.length gc,.slice l ls.length lc,.slice f fs.length fc] 35):=⟨_,rfl⟩
 obtain⟨x1,hb2⟩:=zbr (.cells #[.int .i64 wd,.slice g cs.length gc,.slice l ls.length lc,.slice f fs.length fc] 35) w
 rw[<- hw2] at x1 hb2
 have H2:Hid (Below w.heap.size w w2):=hb2
 have X2:Hid (w2.heap[w.heap.size]?=some (.cells #[.int .i64 wd,.slice g cs.length gc,.slice l ls.length lc,.slice f fs.length fc] 35)):=x1
 have hN1:=hC g gc w2 (hg.below hb2)
 have HI:Hid ((zcP w l ls/\zde w f fs)/\zdA cs ls fs):=⟨⟨hl,hf⟩,hS⟩
 obtain⟨N,hN⟩:∃ N,cs.length=N:=⟨_,rfl⟩
 obtain⟨P,hP⟩:∃ P,ls.length=P:=⟨_,rfl⟩
 obtain⟨R,hR⟩:∃ R,fs.length=R:=⟨_,rfl⟩
 have HN:Hid ((ls.length=P/\fs.length=R)/\L.length=M/\F.length=M):=⟨⟨hP,hR⟩,hL,hF⟩
 have HX:Hid (∀ k,k<F.length->(F.getD k []).length<=1048576):=hx
 rw[hN] at hN1
 rw[hN,hP,hR] at X2 hw2 ⊢
 clear hC hg hl hf hS x1 hb2 hN hP hR hL hF hx
 go_enter SqP.func28,Tryz.ntmps28
 go_upto_region 1 with fail
 rw[<- hw2]
 clear hw2
 obtain⟨c0,c1,c2,c3⟩:=zcm X2.out
 go_wp2_with fail
 refine hN1.mono ?_
 rintro e w3 ⟨ga',la',fa',gc',lc',fc',rfl,hR1,hR2,hb3⟩
 have H3:Hid (Below w.heap.size w w3):=zaj H2.out H2.out.size hb3
 have hb4:Below w3.heap.size w3 (w3.alloc (.cells #[.int .i64 wd',.slice ga' N' gc',.slice la' M lc',.slice fa' M fc'] 35)):=bel
 have X4:Hid ((w3.alloc (.cells #[.int .i64 wd',.slice ga' N' gc',.slice la' M lc',.slice fa' M fc'] 35)).heap[w.heap.size]?=some (.cells #[.int .i64 wd,.slice g N gc,.slice l P lc,.slice f R fc] 35)/\(w3.alloc (.cells #[.int .i64 wd',.slice ga' N' gc',.slice la' M lc',.slice fa' M fc'] 35)).heap[w3.heap.size]?=some (.cells #[.int .i64 wd',.slice ga' N' gc',.slice la' M lc',.slice fa' M fc'] 35)):=⟨(hb4.block _ (gei ((hb3.block _ (gei X2.out).1).trans X2.out)).1).trans ((hb3.block _ (gei X2.out).1).trans X2.out),(zbr _ w3).1⟩
 have H4:Hid (Below w.heap.size w (w3.alloc (.cells #[.int .i64 wd',.slice ga' N' gc',.slice la' M lc',.slice fa' M fc'] 35))):=zaj H3.out H3.out.size hb4
 have HR:Hid (zcP (w3.alloc (.cells #[.int .i64 wd',.slice ga' N' gc',.slice la' M lc',.slice fa' M fc'] 35)) la' L/\zde (w3.alloc (.cells #[.int .i64 wd',.slice ga' N' gc',.slice la' M lc',.slice fa' M fc'] 35)) fa' F):=⟨hR1.below hb4,hR2.below hb4⟩
 clear c0 c1 c2 c3 hR1 hR2 hb3 hb4 hN1 X2 H2 H3
 go_upto_region 2 with fail
 obtain⟨w4,hw4⟩:∃ w4,w4=w3.alloc (.cells #[.int .i64 wd',.slice ga' N' gc',.slice la' M lc',.slice fa' M fc'] 35):=⟨_,rfl⟩
 rw[<- hw4] at X4 H4 HR ⊢
 clear hw4
 obtain⟨c0,c1,c2,c3⟩:=zcm X4.out.1
 obtain⟨d0,d1,d2,d3⟩:=zcm X4.out.2
 have hE:=zfO la' l lc' lc L ls w4 HR.out.1 (HI.out.1.1.below H4.out) (by have:=HN.out.2.1;omega)
 rw[HN.out.1.1,HN.out.2.1] at hE
 have HE:Hid (Calls SqP.prog 51 #[.slice la' M lc',.slice l P lc] w4 fun e w'=>e=.returned (.bool (decide (L=ls)))/\Below w4.heap.size w4 w'):=hE
 clear hE
 rcases ok with _|_
 ·clear HE HR HI HN HX X4 c0 c1 c2 c3 d0 d1 d2 d3
  go_wp2_with fail
  go_ret
  exact⟨by simp,H4.out⟩
 by_cases q1:¬ ls=L
 ·have hd:decide (L=ls)=false:=decide_eq_false (fun e=>q1 e.symm)
  rw[hd] at HE
  have HQ:Hid (¬ ls=L):=q1
  clear hd q1 HR HI HN HX X4
  go_wp2_with fail
  refine HE.out.mono ?_
  rintro e w5 ⟨rfl,hb⟩
  have H5:Hid (Below w.heap.size w w5):=zaj H4.out H4.out.size hb
  clear c0 c1 c2 c3 d0 d1 d2 d3 hb
  go_wp2_with fail
  go_ret
  exact⟨by have h:=HQ.out;simp[h],H5.out⟩
 replace q1:ls=L:=Decidable.not_not.1 q1
 have hd:decide (L=ls)=true:=decide_eq_true q1.symm
 rw[hd] at HE
 have HQ:Hid (ls=L):=q1
 clear hd q1
 by_cases q2:¬ R=M
 ·have hne:((M:Int) != (R:Int))=true:=by simp;omega
  have HQ2:Hid (¬ fs=F):=fun e=>q2 (by rw[<- HN.out.1.2,<- HN.out.2.2,e])
  clear q2 HR HI HN HX X4
  go_wp2_with fail
  refine HE.out.mono ?_
  rintro e w5 ⟨rfl,hb⟩
  have H5:Hid (Below w.heap.size w w5):=zaj H4.out H4.out.size hb
  replace c3:=zab hb c3;replace d3:=zab hb d3
  clear c0 c1 c2 d0 d1 d2 hb HE
  go_wp2_with fail
  go_ret
  exact⟨by have h:=HQ2.out;simp[h],H5.out⟩
 replace q2:R=M:=Decidable.not_not.1 q2
 subst q2
 have hne:((R:Int) != (R:Int))=false:=by simp
 go_wp2_with fail
 refine HE.out.mono ?_
 rintro e w5 ⟨rfl,hb⟩
 have H5:Hid (Below w.heap.size w w5):=zaj H4.out H4.out.size hb
 have R5:Hid (zde w5 f fs/\zde w5 fa' F):=⟨(HI.out.1.2.below H4.out).below hb,HR.out.2.below hb⟩
 replace c3:=zab hb c3;replace d3:=zab hb d3
 clear c0 c1 c2 d0 d1 d2 hb HE HR X4
 go_wp2_with fail
 go_loopw [5] (fun ii wr=>∃ i:Nat,i<=R/\ii=.int .i64 i/\(∀ j,j<i->F.getD j []=fs.getD j [])/\Below w5.heap.size w5 wr) (fun ii _=>R - (intOf ii).toNat)
 case atStart=>exact⟨0,Nat.zero_le _,rfl,fun j h=>by omega,Below.refl _ _⟩
 case round =>
  rename World=>wo
  obtain⟨i,hi,rfl,hsame,hb⟩:=hrel
  have hzo:=hb.size
  have HS:Hid (∀ j,j<i->F.getD j []=fs.getD j []):=hsame
  have c3':=zab hb c3
  have d3':=zab hb d3
  clear c3 d3 hsame
  by_cases hlt:i<R
  ·obtain⟨b1,o1,a3,p3,rfl,y0,hX⟩:=(R5.out.1.below hb).at (k:=i) (by have:=HN.out;omega)
   obtain⟨b2,o2,a4,p4,rfl,x0,hY⟩:=(R5.out.2.below hb).at (k:=i) (by have:=HN.out;omega)
   have hxl:=HX.out i (by have:=HN.out;omega)
   have hltI:(i:Int)<(R:Int):=by omega
   have wk:IntKind.i64.wrap ((i:Int)+1)=(i:Int)+1:=IntWalk.i64_in _ (by omega)
   obtain⟨x,ex⟩:∃ x,F.getD i []=x:=⟨_,rfl⟩
   obtain⟨y,ey⟩:∃ y,fs.getD i []=y:=⟨_,rfl⟩
   have HE:Hid (F.getD i []=x/\fs.getD i []=y):=⟨ex,ey⟩
   rw[ex] at x0 hY hxl
   rw[ey] at y0 hX
   have hC:=fun w hb=>zfO a4 a3 p4 p3 x y w (hY.below hb) (hX.below hb) (by omega)
   obtain⟨m1,em1⟩:∃ m,x.length=m:=⟨_,rfl⟩
   obtain⟨m2,em2⟩:∃ m,y.length=m:=⟨_,rfl⟩
   rw[em1,em2] at hC
   rw[em1] at x0
   rw[em2] at y0
   clear ex ey em1 em2 hX hY hxl
   by_cases hxy:x=y
   ·have HXY:Hid (x=y):=hxy
    rw[decide_eq_true hxy] at hC
    clear hxy
    go_wp2
    go_region_held3 (fun w'=>(w'.cell? ⟨w3.heap.size,3,none⟩=some (.slice (some ⟨b2,o2,none⟩) R fc')/\w'.cell? ⟨w.heap.size,3,none⟩=some (.slice (some ⟨b1,o1,none⟩) R fc))/\w'.cell? ⟨b2,o2+i,none⟩=some (.slice a4 m1 p4)/\w'.cell? ⟨b1,o1+i,none⟩=some (.slice a3 m2 p3))
     (first
      | exact⟨⟨zab hb7 d3',zab hb7 c3'⟩,zab hb7 x0,zab hb7 y0⟩
      | exact⟨⟨d3',c3'⟩,x0,y0⟩
      | go_keep)
     (first
      | (go_at_call 51;refine(hC _ (by first|exact Below.refl _ _|exact(Below.refl _ _).drew)).mono ?_;rintro e w7 ⟨rfl,hb7'⟩;have hb7:Below wo.heap.size wo w7:=(by first|exact hb7'|exact zbZ hb7'))
      | fail)
    all_goals
     have hb8:=zaj hb hzo hb7
     go_wp2_with fail
     go_roundw
     case rel =>
      refine⟨i+1,by omega,by go_num,fun j hj=>?_,by first|exact hb8|exact hb8.drew⟩
      rcases Nat.lt_succ_iff_lt_or_eq.1 hj with q|rfl
      ·exact HS.out j q
      ·rw[HE.out.1,HE.out.2];exact HXY.out
     case measure=>simp[intOf];omega
   ·have HQ2:Hid (¬ fs=F):=fun e=>hxy (by rw[<- HE.out.1,<- HE.out.2,e])
    rw[decide_eq_false hxy] at hC
    clear hxy
    go_wp2
    go_region_held3 (fun w'=>(w'.cell? ⟨w3.heap.size,3,none⟩=some (.slice (some ⟨b2,o2,none⟩) R fc')/\w'.cell? ⟨w.heap.size,3,none⟩=some (.slice (some ⟨b1,o1,none⟩) R fc))/\w'.cell? ⟨b2,o2+i,none⟩=some (.slice a4 m1 p4)/\w'.cell? ⟨b1,o1+i,none⟩=some (.slice a3 m2 p3))
     (first
      | exact⟨⟨zab hb7 d3',zab hb7 c3'⟩,zab hb7 x0,zab hb7 y0⟩
      | exact⟨⟨d3',c3'⟩,x0,y0⟩
      | go_keep)
     (first
      | (go_at_call 51;refine(hC _ (by first|exact Below.refl _ _|exact(Below.refl _ _).drew)).mono ?_;rintro e w7 ⟨rfl,hb7'⟩;have hb7:Below wo.heap.size wo w7:=(by first|exact hb7'|exact zbZ hb7'))
      | fail)
    all_goals
     have hb8:=zaj H5.out H5.out.size (zaj hb hzo hb7)
     go_wp2_with fail
     go_ret
     exact⟨by have h:=HQ2.out;simp[h],by first|exact hb8|exact hb8.drew⟩
  ·have hnl:¬ (i:Int)<(R:Int):=by omega
   have HQ2:Hid (fs=F):=zkI (HN.out.1.2.trans HN.out.2.2.symm) fun j hj=>(HS.out j (by have:=HN.out;omega)).symm
   go_wp2_with fail
   go_ret
   exact⟨by have h:=HQ2.out;have h2:=HQ.out;simp[h,h2],zaj H5.out H5.out.size hb⟩
theorem zhZ{n:Nat->Nat}{M:Nat}(h:∀ k,k<M->n k<=1048576):∀ i,i<=M->zhY n i<=i * 1048576
 | 0,_=>by simp[zhY]
 | i+1,hi=>by
  have:=zhZ h i (by omega)
  have:=h i (by omega)
  simp only[zhY]
  omega
theorem zgT(k0:Int)(a:Option Addr)(n cap:Nat)(f:Nat->Int)(w:World)(h:RI w a (n * 1) f)(hm:n<=1048576)(hk0:0<=k0/\k0<=4611686018427387904) :
  Calls SqP.prog 13 #[.slice a n cap,.int .i64 k0] w fun e w'=>e=.returned (.int .i64 (k0+1 * (n:Int)))/\RI w' a (n * 1) (fun j=>k0+(j:Int))/\w.grownBy w' (Value.slice a n cap).ownBlock:=by
 go_enter SqP.func13,Tryz.ntmps13
 go_wp2_with fail
 go_loopw [1,5] (fun v ii wr=>∃ i:Nat,i<=n/\ii=.int .i64 i/\v=.int .i64 (k0+1 * (i:Int))/\RI wr a (n * 1) (fun j=>if j<i * 1 then k0+(j:Int) else f j)/\w.grownBy wr (Value.slice a n cap).ownBlock) (fun _ ii _=>n - (intOf ii).toNat)
 case atStart=>exact⟨0,Nat.zero_le _,rfl,by simp,h.like (fun j _=>by simp),World.grownBy.refl _ _⟩
 case round =>
  rename World=>wo
  obtain⟨i,hi,rfl,rfl,hR,hg⟩:=hrel
  by_cases hlt:i<n
  ·obtain⟨g,ea,hgl,hc⟩:=hR.at (by omega)
   subst ea
   have hil:(i:Int)<(n:Int):=by omega
   obtain⟨c0,z0⟩:=hc (i) (by omega)
   obtain⟨u0,eu0⟩:∃ u,(if i<i * 1 then k0+((i:Nat):Int) else f (i))=u:=⟨_,rfl⟩
   simp only[eu0] at c0
   have hR0:RI (wo.setCell ⟨g,i,none⟩ (.int .i64 (k0+(i:Int)))) (some ⟨g,0,none⟩) (n * 1) (fun j=>if j<i * 1+1 then k0+(j:Int) else f j):=hR.put (i) (k0+(i:Int)) (by omega) (by rw[if_pos (by omega)];try omega) (fun j hj hne=>by by_cases z:j<i * 1;rw[if_pos (by omega),if_pos (by omega)];rw[if_neg (by omega),if_neg (by omega)])
   have hg2:w.grownBy (wo.setCell ⟨g,i,none⟩ (.int .i64 (k0+(i:Int)))) (Value.slice (some ⟨g,0,none⟩) n cap).ownBlock:=⟨hg.os,hg.tape,hg.output,by simpa using hg.size,fun j hj hne=>by
    have hjg:j≠g:=fun e=>hne (by simp[Value.ownBlock,e])
    rw[Below.heap_setCell _ _ _ _ hjg]
    exact hg.block j hj hne⟩
   have HF:Hid (RI (wo.setCell ⟨g,i,none⟩ (.int .i64 (k0+(i:Int)))) (some ⟨g,0,none⟩) (n * 1) (fun j=>if j<(i+1) * 1 then k0+(j:Int) else f j)):=hR0.like (fun j _=>by rw[show (i+1) * 1=i * 1+1 by omega])
   clear hc hR hR0 eu0
   go_wp2_with fail
   go_roundw
   case rel=>exact⟨i+1,by omega,by go_num,by go_num,HF.out,hg2⟩
   case measure=>simp[intOf];omega
  ·have hin:i=n:=by omega
   subst hin
   go_wp2_with fail
   go_ret
   exact⟨rfl,hR.like (fun j hj=>by rw[if_pos hj]),hg⟩
theorem zjT(k0:Int)(hk0:0<=k0/\k0<=1099511627776)(a:Option Addr)(c M lo hi:Nat)(ad:Nat->Option Addr)(n cp:Nat->Nat)(f:Nat->Nat->Int)(w:World)(h:zcB w lo hi a M ad n cp f)(hm:M<=1048576)(hn:∀ k,k<M->n k<=1048576) :
  Calls SqP.prog 38 #[.slice a M c,.int .i64 k0] w fun e w'=>e=.returned (.int .i64 (k0+(zhY n M:Int)))/\zcB w' lo hi a M ad n cp (fun k j=>k0+(zhY n k:Int)+(j:Int))/\zcA (zcM M ad) w w':=by
 go_enter SqP.func38,Tryz.ntmps38
 go_wp2_with fail
 go_loopw [1,5] (fun v ii wr=>∃ i:Nat,i<=M/\ii=.int .i64 i/\v=.int .i64 (k0+(zhY n i:Int))/\zcB wr lo hi a M ad n cp (fun k j=>if k<i then k0+(zhY n k:Int)+(j:Int) else f k j)/\zcA (zcM M ad) w wr) (fun _ ii _=>M - (intOf ii).toNat)
 case atStart=>exact⟨0,Nat.zero_le _,rfl,by simp[zhY],by simpa using h,zcA.refl _ _⟩
 case round =>
  rename World=>wo
  obtain⟨i,hi',rfl,rfl,hR,hof⟩:=hrel
  by_cases hlt:i<M
  ·rcases hR with q|⟨b,rfl,hy⟩
   ·omega
   have x0:=hy.cell i hlt
   have r0:=hy.row i hlt
   have hltI:(i:Int)<(M:Int):=by omega
   have wk:IntKind.i64.wrap ((i:Int)+1)=(i:Int)+1:=IntWalk.i64_in _ (by omega)
   have hpM:=zhZ hn i (by omega)
   have hn0:=hn i hlt
   obtain⟨p,hp⟩:∃ p,zhY n i=p:=⟨_,rfl⟩
   rw[hp] at hpM ⊢
   have HP:Hid (zhY n i=p):=hp
   have HP1:Hid (zhY n (i+1)=p+n i):=by rw[<- hp];exact(rfl:zhY n (i+1)=zhY n i+n i)
   clear hp h
   go_wp2_with fail
   refine(zgT (k0+(p:Int)) (ad i) (n i) (cp i) _ _ r0 (by omega) (by omega)).mono ?_
   rintro e w7 ⟨rfl,hr7,hg7⟩
   have hblk:∀ b',(Value.slice (ad i) (n i) (cp i)).ownBlock=some b'->∃ x,ad i=some x/\b'=x.block:=fun b' q=>by
    rcases e:ad i with _|x
    ·rw[e] at q;exact absurd q (by simp[Value.ownBlock])
    ·rw[e] at q
     simp only[Value.ownBlock,Option.some.injEq] at q
     exact⟨x,rfl,q.symm⟩
   have ho7:=(zcA.refl (fun e=>∃ x,ad i=some x/\e=x.block) wo).grown hg7 hblk
   have hof7:=hof.grown hg7 (fun b' q=>by obtain⟨x,q1,q2⟩:=hblk b' q;exact⟨i,x,hlt,q1,q2⟩)
   have hy7:zmU w7 lo hi b M ad n cp (fun k j=>if k<i+1 then k0+(zhY n k:Int)+(j:Int) else f k j):=by
    refine⟨hy.out,fun k hk=>ho7.cell (fun ⟨x,q1,q2⟩=>(hy.lt i x hlt q1).2 q2.symm) (hy.cell k hk),fun k hk=>?_,hy.lt,hy.inj,Nat.le_trans hy.top ho7.size⟩
    by_cases e:k=i
    ·subst e
     refine hr7.like fun j hj=>?_
     rw[if_pos (by omega),HP.out]
    ·refine((hy.row k hk).offN ho7 (fun x q ⟨x',q1,q2⟩=>e (hy.inj k i x x' hk hlt q q1 q2))).like fun j hj=>?_
     by_cases e2:k<i
     ·rw[if_pos (by omega),if_pos e2]
     ·rw[if_neg (by omega),if_neg e2]
   have hv:(k0+(p:Int))+1 * (n i:Int)=k0+(zhY n (i+1):Int):=by rw[HP1.out];omega
   rw[hv]
   clear hy hof hr7 hg7 ho7 hv hblk
   go_wp2_with fail
   go_roundw
   case rel=>exact⟨i+1,by omega,by go_num,rfl,.inr ⟨b,rfl,hy7⟩,hof7⟩
   case measure=>simp[intOf];omega
  ·have hiM:i=M:=by omega
   subst hiM
   have hnl:¬ (i:Int)<(i:Int):=by omega
   have hR2:zcB wo lo hi a i ad n cp (fun k j=>k0+(zhY n k:Int)+(j:Int)):=by
    rcases hR with q|⟨b,e,hy⟩
    ·exact .inl q
    ·exact .inr ⟨b,e,hy.out,hy.cell,fun k hk=>(hy.row k hk).like fun j hj=>by rw[if_pos hk],hy.lt,hy.inj,hy.top⟩
   clear hR h
   go_wp2_with fail
   go_ret
   exact⟨rfl,hR2,hof⟩
theorem zjV(wd k0 k1 k2 k3:Int)(cs:List (Int × Int))(P R B:Nat)(ga la fa:Option Addr)(gc lc fc lo hi:Nat)(ad:Nat->Option Addr)(n cp:Nat->Nat)(l:Nat->Int)(f:Nat->Nat->Int)(w:World)(e1:k1=k0+2 * (cs.length:Int))(e2:k2=k1+1 * (P:Int))(e3:k3=k2+(zhY n R:Int))(hk0:0<=k0/\k0<=1000)(hg:Own w B (.slice ga cs.length gc) cs)(hl:RI w la (P * 1) l)(hf:zcB w lo hi fa R ad n cp f)(hm:cs.length<=1048576)(hP:P<=1048576)(hM:R<=1048576)(hn:∀ k,k<R->n k<=1048576)(hA:zmS w.heap.size ga la fa R ad) :
  Calls SqP.prog 12 #[.agg #[.int .i64 wd,.slice ga cs.length gc,.slice la P lc,.slice fa R fc],.int .i64 k0] w fun e w'=>e=.returned (.int .i64 k3)/\Own w' B (.slice ga cs.length gc) (marks k0 cs.length)/\RI w' la (P * 1) (fun j=>k1+(j:Int))/\zcB w' lo hi fa R ad n cp (fun k j=>k2+(zhY n k:Int)+(j:Int))/\zcA (fun e=>zbn ga e\/zbn la e\/zcM R ad e) w w':=by
 obtain⟨w2,hw2⟩:∃ w2,w2=w.alloc (.cells #[.int .i64 wd,.slice ga cs.length gc,.slice la P lc,.slice fa R fc] 35):=⟨_,rfl⟩
 have H2:Hid (zdK w w2 [(w.heap.size,.cells #[.int .i64 wd,.slice ga cs.length gc,.slice la P lc,.slice fa R fc] 35)]):=by
  rw[hw2]
  have h1:zdK w w []:=⟨Below.refl _ _,(fun _ h=>nomatch h),List.nodup_nil⟩
  exact h1.made _
 have hb2:=H2.out.below
 have hbox:∀ e,zbn ga e\/zbn la e\/zcM R ad e->w.heap.size≠e:=fun e h q=>by have:=hA.lt e h;omega
 have hk1:0<=k1/\k1<=4611686018427387904:=by omega
 have hk2:0<=k2/\k2<=1099511627776:=by omega
 have hO2:Own w2 B (.slice ga cs.length gc) cs:=zhL (S:=fun _=>False) hg (zcA.of hb2) (fun _ _ h=>h)
 have hG:=(ziF (aLt:=Sq.altP)) wd k0 B (.slice ga cs.length gc) cs w2 hO2 (by omega) (by omega)
 rw[<- e1] at hG
 have hL:=fun w=>zgT k1 la P lc l w
 rw[<- e2] at hL
 have hF:=fun w h=>zjT k2 hk2 fa fc R lo hi ad n cp f w h hM hn
 rw[<- e3] at hF
 have HL:Hid (RI w2 la (P * 1) l):=hl.below hb2
 have HF:Hid (zcB w2 lo hi fa R ad n cp f):=hf.below hb2
 clear hg hl hf e1 e2 e3 hO2
 go_enter SqP.func12,Tryz.ntmps12
 go_upto_region 1 with fail
 rw[<- hw2]
 clear hw2
 have c0:w2.cell? ⟨w.heap.size,0,none⟩=some (.int .i64 wd):=(cell_of_row _ _ 0 _ _ _ (H2.out.lies (w.heap.size,.cells #[.int .i64 wd,.slice ga cs.length gc,.slice la P lc,.slice fa R fc] 35) (by simp)).1).trans rfl
 have c1:w2.cell? ⟨w.heap.size,1,none⟩=some (.slice ga cs.length gc):=(cell_of_row _ _ 1 _ _ _ (H2.out.lies (w.heap.size,.cells #[.int .i64 wd,.slice ga cs.length gc,.slice la P lc,.slice fa R fc] 35) (by simp)).1).trans rfl
 have c2:w2.cell? ⟨w.heap.size,2,none⟩=some (.slice la P lc):=(cell_of_row _ _ 2 _ _ _ (H2.out.lies (w.heap.size,.cells #[.int .i64 wd,.slice ga cs.length gc,.slice la P lc,.slice fa R fc] 35) (by simp)).1).trans rfl
 have c3:w2.cell? ⟨w.heap.size,3,none⟩=some (.slice fa R fc):=(cell_of_row _ _ 3 _ _ _ (H2.out.lies (w.heap.size,.cells #[.int .i64 wd,.slice ga cs.length gc,.slice la P lc,.slice fa R fc] 35) (by simp)).1).trans rfl
 have K2:Hid (w2.cell? ⟨w.heap.size,0,none⟩=some (.int .i64 wd)/\w2.cell? ⟨w.heap.size,1,none⟩=some (.slice ga cs.length gc)/\w2.cell? ⟨w.heap.size,2,none⟩=some (.slice la P lc)/\w2.cell? ⟨w.heap.size,3,none⟩=some (.slice fa R fc)):=⟨c0,c1,c2,c3⟩
 go_wp2_with fail
 refine hG.mono ?_
 rintro e w3 ⟨rfl,hO3,hg3⟩
 have o3:=(zcA.refl (zbn ga) w2).grown hg3 (fun b q=>zd1 q)
 have HO3:Hid (Own w3 B (.slice ga cs.length gc) (marks k0 cs.length)):=hO3
 have HL3:Hid (RI w3 la (P * 1) l):=HL.out.offN o3 (fun x q h=>hA.gl _ h ⟨x,q,rfl⟩)
 have HF3:Hid (zcB w3 lo hi fa R ad n cp f):=HF.out.offS o3 (fun x q h=>hA.gf _ h ⟨x,q,rfl⟩) (fun k x hk q h=>hA.gr _ h ⟨k,x,hk,q,rfl⟩)
 have nb3:¬ zbn ga w.heap.size:=fun h=>hbox _ (.inl h) rfl
 have nb4:¬ zbn la w.heap.size:=fun h=>hbox _ (.inr (.inl h)) rfl
 clear hG hO3 hg3 c0 c1 c2 c3
 have c2:=o3.cell nb3 K2.out.2.2.1
 have c3:=o3.cell nb3 K2.out.2.2.2
 have O3:Hid (zcA (zbn ga) w2 w3):=o3
 clear o3
 go_wp2_with fail
 refine(hL w3 HL3.out (by omega) hk1).mono ?_
 rintro e w4 ⟨rfl,hR4,hg4⟩
 have o4:=(zcA.refl (zbn la) w3).grown hg4 (fun b q=>zd1 q)
 have HO4:Hid (Own w4 B (.slice ga cs.length gc) (marks k0 cs.length)):=zhL HO3.out o4 (fun b q h=>hA.gl b (zd1 q) h)
 have HL4:Hid (RI w4 la (P * 1) (fun j=>k1+(j:Int))):=hR4
 have HF4:Hid (zcB w4 lo hi fa R ad n cp f):=HF3.out.offS o4 (fun x q h=>hA.lf _ h ⟨x,q,rfl⟩) (fun k x hk q h=>hA.lr _ h ⟨k,x,hk,q,rfl⟩)
 have c3':=o4.cell nb4 c3
 have O4:Hid (zcA (zbn la) w3 w4):=o4
 clear o4 hR4 hg4 c2 c3
 go_wp2_with fail
 refine(hF w4 HF4.out).mono ?_
 rintro e w5 ⟨rfl,hR5,o5⟩
 have q1:=zhL HO4.out o5 (fun b q h=>hA.gr b (zd1 q) h)
 have q2:=HL4.out.offN o5 (fun x q h=>hA.lr _ ⟨x,q,rfl⟩ h)
 have q3:zcA (fun e=>zbn ga e\/zbn la e\/zcM R ad e) w w5:=(((zcA.of hb2).trans (O3.out.imp fun _ h=>.inl h)).trans (O4.out.imp fun _ h=>.inr (.inl h))).trans (o5.imp fun _ h=>.inr (.inr h))
 clear o5 c3'
 go_wp2_with fail
 go_ret
 exact⟨rfl,q1,q2,hR5,q3⟩
theorem zjU{lo hi g1 g2 g3 gc lc fc:Nat}(h:Mk w lo hi g1 g2 g3 cs ls fs)(hS:zdA cs ls fs)(hc:gc=cs.length/\lc=ls.length) :
  Calls SqP.prog 12 #[.agg #[.int .i64 wd,.slice (some ⟨g1,0,none⟩) cs.length gc,.slice (some ⟨g2,0,none⟩) ls.length lc,.slice (some ⟨g3,0,none⟩) fs.length fc],.int .i64 1] w fun e w'=>∃ r:Int,e=.returned (.int .i64 r)/\0<=r/\zcA (fun e=>lo<=e/\e<hi) w w':=by
 obtain⟨rfl,rfl⟩:=hc
 obtain⟨h1,h2,h3,ad,h4,h5⟩:=h
 obtain⟨a,c,q1,q2,q3⟩:=zed h2
 cases q1
 have one:∀ {b e:Nat},zbn (some ⟨b,0,none⟩) e->e=b:=fun ⟨x,p1,p2⟩=>by cases p1;exact p2
 have row:∀ {e:Nat},zcM fs.length ad e->g3<e/\e<hi:=fun ⟨k,x,p1,p2,p3⟩=>by rw[p3];exact h5 k x p1 p2
 have hA:zmS w.heap.size (some ⟨g1,0,none⟩) (some ⟨g2,0,none⟩) (some ⟨g3,0,none⟩) fs.length ad:=by
  refine⟨fun e p p'=>?_,fun e p p'=>?_,fun e p p'=>?_,fun e p p'=>?_,fun e p p'=>?_,fun e p=>?_⟩
  ·have:=one p;have:=one p';omega
  ·have:=one p;have:=one p';omega
  ·have:=one p;have:=row p';omega
  ·have:=one p;have:=one p';omega
  ·have:=one p;have:=row p';omega
  ·rcases p with p|p|p
   ·have:=one p;omega
   ·have:=one p;omega
   ·have:=row p;omega
 have hs:=zhZ (n:=fun k=>(fs.getD k []).length) hS.2.2.2 fs.length (Nat.le_refl _)
 refine(zjV wd 1 _ _ _ cs ls.length fs.length lo _ _ _ _ _ fc _ _ ad _ _ _ _ w rfl rfl rfl (by omega) h1 q2 h4 hS.1 hS.2.1 hS.2.2.1 hS.2.2.2 hA).mono ?_
 rintro e w' ⟨rfl,_,_,_,ho⟩
 refine⟨_,rfl,by omega,ho.imp fun e p=>?_⟩
 rcases p with p|p|p
 ·have:=one p;omega
 ·have:=one p;omega
 ·have:=row p;omega
