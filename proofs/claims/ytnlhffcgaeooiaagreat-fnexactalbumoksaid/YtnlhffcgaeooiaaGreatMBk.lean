/- Part. -/
import Derived.Test.YtnlhffcgaeooiaaGreatMBi
import Derived.Test.YtnlhffcgaeooiaaGreatMBj
set_option maxHeartbeats 4000000
set_option linter.unusedVariables false
namespace Go.Proofs.YtnlhffcgaeooiaaGreat
variable{ok:Bool}{wd wd':Int}{cs:List (Int × Int)}{F fs:List (List Int)}{L ls:List Int}{M:Nat}{l:Nat->Int}{n:Nat->Nat}{f:Nat->Nat->Int}{ad:Nat->Option Addr}{a:Option Addr}{w:World}
namespace Sp
open Go.RowKit
attribute [local go_sem ↓] Go.wp_at_zero Go.wp_at_succ
theorem zaU(o:Obj)(w:World):(w.alloc o).heap[w.heap.size]?=some o/\Below w.heap.size w (w.alloc o):=by
 refine⟨?_,bel⟩
 show (w.heap.push o)[w.heap.size]?=some o
 simp
theorem zkE{n:Nat}{f:Nat->Int}(h:RI w a (n * 1) f):zcu w a ((List.range n).map f):=by
 rcases Nat.eq_zero_or_pos n with rfl|hp
 ·exact .inl rfl
 ·obtain⟨g,rfl,hl,hc⟩:=h.at (by omega)
  refine .inr ⟨g,0,rfl,hl,fun i hi=>?_⟩
  have hi':i<n:=by simpa using hi
  rw[Nat.zero_add,(hc i (by omega)).1]
  simp[hi']
theorem zlB{lo hi:Nat}{cp:Nat->Nat}(h:zmj w lo hi a M ad n cp f):zdo w a ((List.range M).map fun k=>(List.range (n k)).map (f k)):=by
 rcases h with rfl|⟨b,rfl,h⟩
 ·exact .inl rfl
 ·refine .inr ⟨b,0,rfl,nll h.out.2 h.top,fun k hk=>?_⟩
  have hk':k<M:=by simpa using hk
  have e:((List.range M).map fun k=>(List.range (n k)).map (f k)).getD k []=(List.range (n k)).map (f k):=by simp[hk']
  rw[e]
  refine⟨ad k,cp k,?_,zkE (h.row k hk')⟩
  rw[Nat.zero_add,h.cell k hk']
  simp
def zsb(w:World)(wd:Int)(N M:Nat)(L:List Int)(F:List (List Int))(ok:Bool)(r:Ending)(w':World):Prop :=
 ∃ ga la fa gc lc fc,r=.returned (.tuple #[.agg #[.int .i64 wd,.slice ga N gc,.slice la M lc,.slice fa M fc],.bool ok])/\zcu w' la L/\zdo w' fa F/\Below w.heap.size w w'
theorem zmm{r:Ending}{w':World}(h:zrv w wd cs M l n f ok r w'):zsb w wd cs.length M ((List.range M).map l) ((List.range M).map fun k=>(List.range (n k)).map (f k)) ok r w':=by
 obtain⟨ga,la,fa,gc,lc,fc,ad,cp,h1,_,h3,h4,_,_,h7⟩:=h
 exact⟨ga,la,fa,gc,lc,fc,h1,zkE h3,zlB h4,h7⟩
set_option maxRecDepth 100000 in
theorem zfC(wd:Int)(g l f:Option Addr)(gc lc fc:Nat)(cs:List (Int × Int))(ls:List Int)(fs:List (List Int))(w:World)(hg:zaj w g cs)(hl:zcu w l ls)(hf:zdo w f fs)(hS:zeL cs ls fs){N':Nat}(hL:L.length=M)(hF:F.length=M)(hM:M<=20)(hx:∀ k,k<F.length->(F.getD k []).length<=1048576)(hC:∀(a:Option Addr) (cap:Nat) (w:World),zaj w a cs->Calls SqP.prog 29 #[.agg #[.int .i64 wd,.slice a cs.length cap]] w (zsb w wd' N' M L F ok)) :
  Calls SqP.prog 9 #[.agg #[.int .i64 wd,.slice g cs.length gc,.slice l ls.length lc,.slice f fs.length fc]] w fun e w'=>e=.returned (.bool (ok && decide (ls=L) && decide (fs=F)))/\Below w.heap.size w w':=by
 obtain⟨w2,hw2⟩:∃ w2,w2=w.alloc (.cells #[.int .i64 wd,.slice g cs.length gc,.slice l ls.length lc,.slice f fs.length fc] 35):=⟨_,rfl⟩
 obtain⟨x1,hb2⟩:=zaU (.cells #[.int .i64 wd,.slice g cs.length gc,.slice l ls.length lc,.slice f fs.length fc] 35) w
 rw[<- hw2] at x1 hb2
 have H2:Hid (Below w.heap.size w w2):=hb2
 have X2:Hid (w2.heap[w.heap.size]?=some (.cells #[.int .i64 wd,.slice g cs.length gc,.slice l ls.length lc,.slice f fs.length fc] 35)):=x1
 have hN1:=hC g gc w2 (hg.below hb2)
 have HI:Hid ((zcu w l ls/\zdo w f fs)/\zeL cs ls fs):=⟨⟨hl,hf⟩,hS⟩
 obtain⟨N,hN⟩:∃ N,cs.length=N:=⟨_,rfl⟩
 obtain⟨P,hP⟩:∃ P,ls.length=P:=⟨_,rfl⟩
 obtain⟨R,hR⟩:∃ R,fs.length=R:=⟨_,rfl⟩
 have HN:Hid ((ls.length=P/\fs.length=R)/\L.length=M/\F.length=M):=⟨⟨hP,hR⟩,hL,hF⟩
 have HX:Hid (∀ k,k<F.length->(F.getD k []).length<=1048576):=hx
 rw[hN] at hN1
 rw[hN,hP,hR] at X2 hw2 ⊢
 clear hC hg hl hf hS x1 hb2 hN hP hR hL hF hx
 go_enter SqP.func9,Tryz.ntmps9
 go_upto_region 1 with fail
 rw[<- hw2]
 clear hw2
 obtain⟨c0,c1,c2,c3⟩:=zde X2.out
 go_wp2_with fail
 refine hN1.mono ?_
 rintro e w3 ⟨ga',la',fa',gc',lc',fc',rfl,hR1,hR2,hb3⟩
 have H3:Hid (Below w.heap.size w w3):=zai H2.out H2.out.size hb3
 have hb4:Below w3.heap.size w3 (w3.alloc (.cells #[.int .i64 wd',.slice ga' N' gc',.slice la' M lc',.slice fa' M fc'] 35)):=bel
 have X4:Hid ((w3.alloc (.cells #[.int .i64 wd',.slice ga' N' gc',.slice la' M lc',.slice fa' M fc'] 35)).heap[w.heap.size]?=some (.cells #[.int .i64 wd,.slice g N gc,.slice l P lc,.slice f R fc] 35)/\(w3.alloc (.cells #[.int .i64 wd',.slice ga' N' gc',.slice la' M lc',.slice fa' M fc'] 35)).heap[w3.heap.size]?=some (.cells #[.int .i64 wd',.slice ga' N' gc',.slice la' M lc',.slice fa' M fc'] 35)):=⟨(hb4.block _ (gei ((hb3.block _ (gei X2.out).1).trans X2.out)).1).trans ((hb3.block _ (gei X2.out).1).trans X2.out),(zaU _ w3).1⟩
 have H4:Hid (Below w.heap.size w (w3.alloc (.cells #[.int .i64 wd',.slice ga' N' gc',.slice la' M lc',.slice fa' M fc'] 35))):=zai H3.out H3.out.size hb4
 have HR:Hid (zcu (w3.alloc (.cells #[.int .i64 wd',.slice ga' N' gc',.slice la' M lc',.slice fa' M fc'] 35)) la' L/\zdo (w3.alloc (.cells #[.int .i64 wd',.slice ga' N' gc',.slice la' M lc',.slice fa' M fc'] 35)) fa' F):=⟨hR1.below hb4,hR2.below hb4⟩
 clear c0 c1 c2 c3 hR1 hR2 hb3 hb4 hN1 X2 H2 H3
 go_upto_region 2 with fail
 obtain⟨w4,hw4⟩:∃ w4,w4=w3.alloc (.cells #[.int .i64 wd',.slice ga' N' gc',.slice la' M lc',.slice fa' M fc'] 35):=⟨_,rfl⟩
 rw[<- hw4] at X4 H4 HR ⊢
 clear hw4
 obtain⟨c0,c1,c2,c3⟩:=zde X4.out.1
 obtain⟨d0,d1,d2,d3⟩:=zde X4.out.2
 have hE:=zkN l la' lc lc' ls L w4 (HI.out.1.1.below H4.out) HR.out.1 (by have:=HI.out.2.2.1;omega)
 rw[HN.out.1.1,HN.out.2.1] at hE
 have hF:∀ w5,Below w4.heap.size w4 w5->Calls SqP.prog 31 #[.slice f R fc,.slice fa' M fc',.func (.func 30) #[] #[]] w5 fun e w'=>e=.returned (.bool (decide (fs=F)))/\Below w5.heap.size w5 w':=fun w5 hb=>by
  have:=znY f fa' fc fc' fs F w5 ((HI.out.1.2.below H4.out).below hb) (HR.out.2.below hb) (by have:=HI.out.2.2.2.1;omega) (fun k hk=>by have:=HI.out.2.2.2.2 k hk;omega)
  rw[HN.out.1.2,HN.out.2.2] at this
  exact this
 have HF:Hid (∀ w5,Below w4.heap.size w4 w5->Calls SqP.prog 31 #[.slice f R fc,.slice fa' M fc',.func (.func 30) #[] #[]] w5 fun e w'=>e=.returned (.bool (decide (fs=F)))/\Below w5.heap.size w5 w'):=hF
 have HE:Hid (Calls SqP.prog 30 #[.slice l P lc,.slice la' M lc'] w4 fun e w'=>e=.returned (.bool (decide (ls=L)))/\Below w4.heap.size w4 w'):=hE
 clear hE hF HI HN HX HR X4
 rcases ok with _|_
 ·clear HE HF c0 c1 c2 c3 d0 d1 d2 d3
  go_wp2_with fail
  go_ret
  exact⟨by simp,H4.out⟩
 ·obtain⟨b1,eb1⟩:∃ b1,decide (ls=L)=b1:=⟨_,rfl⟩
  obtain⟨b2,eb2⟩:∃ b2,decide (fs=F)=b2:=⟨_,rfl⟩
  rw[eb1] at HE
  rw[eb2] at HF
  have HB:Hid (decide (ls=L)=b1/\decide (fs=F)=b2):=⟨eb1,eb2⟩
  clear eb1 eb2
  rcases b1 with _|_
  ·clear HF
   go_wp2_with fail
   refine HE.out.mono ?_
   rintro e w5 ⟨rfl,hb⟩
   have H5:Hid (Below w.heap.size w w5):=zai H4.out H4.out.size hb
   clear c0 c1 c2 c3 d0 d1 d2 d3 hb
   go_wp2_with fail
   go_ret
   exact⟨by have h:=HB.out.1;simp[h],H5.out⟩
  ·go_wp2_with fail
   refine HE.out.mono ?_
   rintro e w5 ⟨rfl,hb⟩
   have H5:Hid (Below w.heap.size w w5):=zai H4.out H4.out.size hb
   have hF5:=HF.out w5 hb
   replace c3:=zab hb c3;replace d3:=zab hb d3
   clear c0 c1 c2 d0 d1 d2 hb HE HF
   go_wp2_with fail
   refine hF5.mono ?_
   rintro e w6 ⟨rfl,hb⟩
   have H6:=zai H5.out H5.out.size hb
   clear c3 d3 hb hF5
   go_wp2_with fail
   go_ret
   exact⟨by have h:=HB.out;simp[h.1,h.2],H6⟩
set_option maxRecDepth 100000 in
theorem zfO(wd:Int)(g l f:Option Addr)(gc lc fc:Nat)(cs:List (Int × Int))(ls:List Int)(fs:List (List Int))(w:World)(hg:zaj w g cs)(hl:zcu w l ls)(hf:zdo w f fs)(hS:zeL cs ls fs){N':Nat}(hL:L.length=M)(hF:F.length=M)(hM:M<=20)(hx:∀ k,k<F.length->(F.getD k []).length<=1048576)(hC:∀(a:Option Addr) (cap:Nat) (w:World),zaj w a cs->Calls SqP.prog 24 #[.agg #[.int .i64 wd,.slice a cs.length cap]] w (zsb w wd' N' M L F ok)) :
  Calls SqP.prog 7 #[.agg #[.int .i64 wd,.slice g cs.length gc,.slice l ls.length lc,.slice f fs.length fc]] w fun e w'=>e=.returned (.bool (ok && decide (ls=L) && decide (fs=F)))/\Below w.heap.size w w':=by
 obtain⟨w2,hw2⟩:∃ w2,w2=w.alloc (.cells #[.int .i64 wd,.slice g cs.length gc,.slice l ls.length lc,.slice f fs.length fc] 35):=⟨_,rfl⟩
 obtain⟨x1,hb2⟩:=zaU (.cells #[.int .i64 wd,.slice g cs.length gc,.slice l ls.length lc,.slice f fs.length fc] 35) w
 rw[<- hw2] at x1 hb2
 have H2:Hid (Below w.heap.size w w2):=hb2
 have X2:Hid (w2.heap[w.heap.size]?=some (.cells #[.int .i64 wd,.slice g cs.length gc,.slice l ls.length lc,.slice f fs.length fc] 35)):=x1
 have hN1:=hC g gc w2 (hg.below hb2)
 have HI:Hid ((zcu w l ls/\zdo w f fs)/\zeL cs ls fs):=⟨⟨hl,hf⟩,hS⟩
 obtain⟨N,hN⟩:∃ N,cs.length=N:=⟨_,rfl⟩
 obtain⟨P,hP⟩:∃ P,ls.length=P:=⟨_,rfl⟩
 obtain⟨R,hR⟩:∃ R,fs.length=R:=⟨_,rfl⟩
 have HN:Hid ((ls.length=P/\fs.length=R)/\L.length=M/\F.length=M):=⟨⟨hP,hR⟩,hL,hF⟩
 have HX:Hid (∀ k,k<F.length->(F.getD k []).length<=1048576):=hx
 rw[hN] at hN1
 rw[hN,hP,hR] at X2 hw2 ⊢
 clear hC hg hl hf hS x1 hb2 hN hP hR hL hF hx
 go_enter SqP.func7,Tryz.ntmps7
 go_upto_region 1 with fail
 rw[<- hw2]
 clear hw2
 obtain⟨c0,c1,c2,c3⟩:=zde X2.out
 go_wp2_with fail
 refine hN1.mono ?_
 rintro e w3 ⟨ga',la',fa',gc',lc',fc',rfl,hR1,hR2,hb3⟩
 have H3:Hid (Below w.heap.size w w3):=zai H2.out H2.out.size hb3
 have hb4:Below w3.heap.size w3 (w3.alloc (.cells #[.int .i64 wd',.slice ga' N' gc',.slice la' M lc',.slice fa' M fc'] 35)):=bel
 have X4:Hid ((w3.alloc (.cells #[.int .i64 wd',.slice ga' N' gc',.slice la' M lc',.slice fa' M fc'] 35)).heap[w.heap.size]?=some (.cells #[.int .i64 wd,.slice g N gc,.slice l P lc,.slice f R fc] 35)/\(w3.alloc (.cells #[.int .i64 wd',.slice ga' N' gc',.slice la' M lc',.slice fa' M fc'] 35)).heap[w3.heap.size]?=some (.cells #[.int .i64 wd',.slice ga' N' gc',.slice la' M lc',.slice fa' M fc'] 35)):=⟨(hb4.block _ (gei ((hb3.block _ (gei X2.out).1).trans X2.out)).1).trans ((hb3.block _ (gei X2.out).1).trans X2.out),(zaU _ w3).1⟩
 have H4:Hid (Below w.heap.size w (w3.alloc (.cells #[.int .i64 wd',.slice ga' N' gc',.slice la' M lc',.slice fa' M fc'] 35))):=zai H3.out H3.out.size hb4
 have HR:Hid (zcu (w3.alloc (.cells #[.int .i64 wd',.slice ga' N' gc',.slice la' M lc',.slice fa' M fc'] 35)) la' L/\zdo (w3.alloc (.cells #[.int .i64 wd',.slice ga' N' gc',.slice la' M lc',.slice fa' M fc'] 35)) fa' F):=⟨hR1.below hb4,hR2.below hb4⟩
 clear c0 c1 c2 c3 hR1 hR2 hb3 hb4 hN1 X2 H2 H3
 go_upto_region 2 with fail
 obtain⟨w4,hw4⟩:∃ w4,w4=w3.alloc (.cells #[.int .i64 wd',.slice ga' N' gc',.slice la' M lc',.slice fa' M fc'] 35):=⟨_,rfl⟩
 rw[<- hw4] at X4 H4 HR ⊢
 clear hw4
 obtain⟨c0,c1,c2,c3⟩:=zde X4.out.1
 obtain⟨d0,d1,d2,d3⟩:=zde X4.out.2
 have hE:=zfE la' l lc' lc L ls w4 HR.out.1 (HI.out.1.1.below H4.out) (by have:=HN.out.2.1;omega)
 rw[HN.out.1.1,HN.out.2.1] at hE
 have HE:Hid (Calls SqP.prog 25 #[.slice la' M lc',.slice l P lc] w4 fun e w'=>e=.returned (.bool (decide (L=ls)))/\Below w4.heap.size w4 w'):=hE
 clear hE
 rcases ok with _|_
 ·clear HE HR HI HN HX X4 c0 c1 c2 c3 d0 d1 d2 d3
  go_wp2_with fail
  go_ret
  exact⟨by simp,H4.out⟩
 by_cases q1:¬ ls=L
 ·have hd:decide (L=ls)=false:=decide_eq_false (fun e=>q1 e.symm)
  rw[hd] at HE
  have HQ:Hid (¬ ls=L):=q1
  clear hd q1 HR HI HN HX X4
  go_wp2_with fail
  refine HE.out.mono ?_
  rintro e w5 ⟨rfl,hb⟩
  have H5:Hid (Below w.heap.size w w5):=zai H4.out H4.out.size hb
  clear c0 c1 c2 c3 d0 d1 d2 d3 hb
  go_wp2_with fail
  go_ret
  exact⟨by have h:=HQ.out;simp[h],H5.out⟩
 replace q1:ls=L:=Decidable.not_not.1 q1
 have hd:decide (L=ls)=true:=decide_eq_true q1.symm
 rw[hd] at HE
 have HQ:Hid (ls=L):=q1
 clear hd q1
 by_cases q2:¬ R=M
 ·have hne:((M:Int) != (R:Int))=true:=by simp;omega
  have HQ2:Hid (¬ fs=F):=fun e=>q2 (by rw[<- HN.out.1.2,<- HN.out.2.2,e])
  clear q2 HR HI HN HX X4
  go_wp2_with fail
  refine HE.out.mono ?_
  rintro e w5 ⟨rfl,hb⟩
  have H5:Hid (Below w.heap.size w w5):=zai H4.out H4.out.size hb
  replace c3:=zab hb c3;replace d3:=zab hb d3
  clear c0 c1 c2 d0 d1 d2 hb HE
  go_wp2_with fail
  go_ret
  exact⟨by have h:=HQ2.out;simp[h],H5.out⟩
 replace q2:R=M:=Decidable.not_not.1 q2
 subst q2
 have hne:((R:Int) != (R:Int))=false:=by simp
 go_wp2_with fail
 refine HE.out.mono ?_
 rintro e w5 ⟨rfl,hb⟩
 have H5:Hid (Below w.heap.size w w5):=zai H4.out H4.out.size hb
 have R5:Hid (zdo w5 f fs/\zdo w5 fa' F):=⟨(HI.out.1.2.below H4.out).below hb,HR.out.2.below hb⟩
 replace c3:=zab hb c3;replace d3:=zab hb d3
 clear c0 c1 c2 d0 d1 d2 hb HE HR X4
 go_wp2_with fail
 go_loopw [5] (fun ii wr=>∃ i:Nat,i<=R/\ii=.int .i64 i/\(∀ j,j<i->F.getD j []=fs.getD j [])/\Below w5.heap.size w5 wr) (fun ii _=>R - (intOf ii).toNat)
 case atStart=>exact⟨0,Nat.zero_le _,rfl,fun j h=>by omega,Below.refl _ _⟩
 case round =>
  rename World=>wo
  obtain⟨i,hi,rfl,hsame,hb⟩:=hrel
  have hzo:=hb.size
  have HS:Hid (∀ j,j<i->F.getD j []=fs.getD j []):=hsame
  have c3':=zab hb c3
  have d3':=zab hb d3
  clear c3 d3 hsame
  by_cases hlt:i<R
  ·obtain⟨b1,o1,a3,p3,rfl,y0,hX⟩:=(R5.out.1.below hb).at (k:=i) (by have:=HN.out;omega)
   obtain⟨b2,o2,a4,p4,rfl,x0,hY⟩:=(R5.out.2.below hb).at (k:=i) (by have:=HN.out;omega)
   have hxl:=HX.out i (by have:=HN.out;omega)
   have hltI:(i:Int)<(R:Int):=by omega
   have wk:IntKind.i64.wrap ((i:Int)+1)=(i:Int)+1:=IntWalk.i64_in _ (by omega)
   obtain⟨x,ex⟩:∃ x,F.getD i []=x:=⟨_,rfl⟩
   obtain⟨y,ey⟩:∃ y,fs.getD i []=y:=⟨_,rfl⟩
   have HE:Hid (F.getD i []=x/\fs.getD i []=y):=⟨ex,ey⟩
   rw[ex] at x0 hY hxl
   rw[ey] at y0 hX
   have hC:=fun w hb=>zfE a4 a3 p4 p3 x y w (hY.below hb) (hX.below hb) (by omega)
   obtain⟨m1,em1⟩:∃ m,x.length=m:=⟨_,rfl⟩
   obtain⟨m2,em2⟩:∃ m,y.length=m:=⟨_,rfl⟩
   rw[em1,em2] at hC
   rw[em1] at x0
   rw[em2] at y0
   clear ex ey em1 em2 hX hY hxl
   by_cases hxy:x=y
   ·have HXY:Hid (x=y):=hxy
    rw[decide_eq_true hxy] at hC
    clear hxy
    go_wp2
    go_region_held3 (fun w'=>(w'.cell? ⟨w3.heap.size,3,none⟩=some (.slice (some ⟨b2,o2,none⟩) R fc')/\w'.cell? ⟨w.heap.size,3,none⟩=some (.slice (some ⟨b1,o1,none⟩) R fc))/\w'.cell? ⟨b2,o2+i,none⟩=some (.slice a4 m1 p4)/\w'.cell? ⟨b1,o1+i,none⟩=some (.slice a3 m2 p3))
     (first
      | exact⟨⟨zab hb7 d3',zab hb7 c3'⟩,zab hb7 x0,zab hb7 y0⟩
      | exact⟨⟨d3',c3'⟩,x0,y0⟩
      | go_keep)
     (first
      | (go_at_call 25;refine(hC _ (by first|exact Below.refl _ _|exact(Below.refl _ _).drew)).mono ?_;rintro e w7 ⟨rfl,hb7'⟩;have hb7:Below wo.heap.size wo w7:=(by first|exact hb7'|exact zbH hb7'))
      | fail)
    all_goals
     have hb8:=zai hb hzo hb7
     go_wp2_with fail
     go_roundw
     case rel =>
      refine⟨i+1,by omega,by go_num,fun j hj=>?_,by first|exact hb8|exact hb8.drew⟩
      rcases Nat.lt_succ_iff_lt_or_eq.1 hj with q|rfl
      ·exact HS.out j q
      ·rw[HE.out.1,HE.out.2];exact HXY.out
     case measure=>simp[intOf];omega
   ·have HQ2:Hid (¬ fs=F):=fun e=>hxy (by rw[<- HE.out.1,<- HE.out.2,e])
    rw[decide_eq_false hxy] at hC
    clear hxy
    go_wp2
    go_region_held3 (fun w'=>(w'.cell? ⟨w3.heap.size,3,none⟩=some (.slice (some ⟨b2,o2,none⟩) R fc')/\w'.cell? ⟨w.heap.size,3,none⟩=some (.slice (some ⟨b1,o1,none⟩) R fc))/\w'.cell? ⟨b2,o2+i,none⟩=some (.slice a4 m1 p4)/\w'.cell? ⟨b1,o1+i,none⟩=some (.slice a3 m2 p3))
     (first
      | exact⟨⟨zab hb7 d3',zab hb7 c3'⟩,zab hb7 x0,zab hb7 y0⟩
      | exact⟨⟨d3',c3'⟩,x0,y0⟩
      | go_keep)
     (first
      | (go_at_call 25;refine(hC _ (by first|exact Below.refl _ _|exact(Below.refl _ _).drew)).mono ?_;rintro e w7 ⟨rfl,hb7'⟩;have hb7:Below wo.heap.size wo w7:=(by first|exact hb7'|exact zbH hb7'))
      | fail)
    all_goals
     have hb8:=zai H5.out H5.out.size (zai hb hzo hb7)
     go_wp2_with fail
     go_ret
     exact⟨by have h:=HQ2.out;simp[h],by first|exact hb8|exact hb8.drew⟩
  ·have hnl:¬ (i:Int)<(R:Int):=by omega
   have HQ2:Hid (fs=F):=zkl (HN.out.1.2.trans HN.out.2.2.symm) fun j hj=>(HS.out j (by have:=HN.out;omega)).symm
   go_wp2_with fail
   go_ret
   exact⟨by have h:=HQ2.out;have h2:=HQ.out;simp[h,h2],zai H5.out H5.out.size hb⟩
theorem znS(wd:Int)(cs:List (Int × Int))(ls:List Int)(fs:List (List Int))(hS:zeL cs ls fs):∃ b:Bool,
  (∀(g l f:Option Addr) (gc lc fc:Nat) (w:World),ScM w g l f cs ls fs->Calls SqP.prog 9 #[.agg #[.int .i64 wd,.slice g cs.length gc,.slice l ls.length lc,.slice f fs.length fc]] w fun e w'=>e=.returned (.bool b)/\Below w.heap.size w w') /\
  (∀(g l f:Option Addr) (gc lc fc:Nat) (w:World),ScM w g l f cs ls fs->Calls SqP.prog 7 #[.agg #[.int .i64 wd,.slice g cs.length gc,.slice l ls.length lc,.slice f fs.length fc]] w fun e w'=>e=.returned (.bool b)/\Below w.heap.size w w'):=by
 obtain⟨tw,tc,M,l,n,f,ok,hlen,hM,hn,_,ci,cp⟩:=zre wd cs hS.1
 have hx:∀ k,k<((List.range M).map fun k=>(List.range (n k)).map (f k)).length->(((List.range M).map fun k=>(List.range (n k)).map (f k)).getD k []).length<=1048576:=fun k hk=>by
  have hk':k<M:=by simpa using hk
  have:=hn k hk'
  simp[hk']
  omega
 exact⟨_,fun g l' f' gc lc fc w h=>zfC wd g l' f' gc lc fc cs ls fs w h.1 h.2.1 h.2.2 hS (by simp) (by simp) hM hx (fun a cap w h=>(ci a cap w h).mono fun e w' q=>zmm q),
  fun g l' f' gc lc fc w h=>zfO wd g l' f' gc lc fc cs ls fs w h.1 h.2.1 h.2.2 hS (by simp) (by simp) hM hx (fun a cap w h=>(cp a cap w h).mono fun e w' q=>zmm q)⟩
theorem zmN{g l f g2 l2 f2:Option Addr}{gc lc fc gc2 lc2 fc2:Nat}(h:ScM w g l f cs ls fs)(h2:ScM w g2 l2 f2 cs ls fs)(hS:zeL cs ls fs) :
  Calls SqP.prog 10 #[.agg #[.int .i64 wd,.slice g cs.length gc,.slice l ls.length lc,.slice f fs.length fc],.agg #[.int .i64 wd,.slice g2 cs.length gc2,.slice l2 ls.length lc2,.slice f2 fs.length fc2]] w fun e w'=>e=.returned (.bool true)/\Below w.heap.size w w' :=
 zmO wd g l f g2 l2 f2 gc lc fc gc2 lc2 fc2 cs ls fs w h.1 h.2.1 h.2.2 h2.1 h2.2.1 h2.2.2 hS
theorem ScN.put{lo b i g1 g2 g3:Nat}(h:ScN w lo g1 g2 g3 cs ls fs)(hb:b<lo)(v:Value):ScN (w.setCell ⟨b,i,none⟩ v) lo g1 g2 g3 cs ls fs :=
 h.move (by simp) fun k hk _=>Below.heap_setCell _ _ _ _ (by show k≠b;omega)
