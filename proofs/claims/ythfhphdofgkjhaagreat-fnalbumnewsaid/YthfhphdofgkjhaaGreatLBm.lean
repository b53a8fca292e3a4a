/- Part. -/
import Derived.Test.YthfhphdofgkjhaaGreatLBl
set_option maxHeartbeats 8000000
set_option linter.unusedVariables false
namespace Go.Proofs.YthfhphdofgkjhaaGreat
variable{ok:Bool}{cs tc:List (Int × Int)}{M N hi:Nat}{l:Nat->Int}{cp n:Nat->Nat}{f:Nat->Nat->Int}{ad:Nat->Option Addr}{S:Nat->Prop}{a:Option Addr}{w w':World}
namespace Sp
open Go.RowKit
attribute [local go_sem ↓] Go.wp_at_zero Go.wp_at_succ
theorem zeK(a:Option Addr)(n cap:Nat)(f:Nat->Int)(w:World)(h:BytesAt w a n f)(hn:n<=1048576)(hcap:n<=cap)(hc2:cap<=9223372036854775807) :
  Calls SqP.prog 4 #[.slice a n cap] w fun e w'=>∃ (wd:Int) (a:Option Addr) (c:Nat) (xs:List (Int × Int)),e=.returned (.agg #[.int .i64 wd,.slice a xs.length c])/\zai w' a xs/\xs.length<=31/\Below w.heap.size w w':=by
 go_enter SqP.func4,Tryz.ntmps4
 go_wp2_with fail
 refine(zla _ n _ f _ (h.below bel) hn hcap hc2).mono ?_
 rintro e w1 ⟨rfl,hr1,hb1⟩
 have hz1:=hb1.size
 simp at hz1 hr1
 have s1:w.heap.size+1<w1.heap.size:=by have:=hr1.lt;omega
 have p4:w1.cell? ⟨w.heap.size,0,none⟩=some (.int .i64 0):=zab hb1 (by simp[go_sem])
 have p5:w1.cell? ⟨w.heap.size,1,none⟩=some (.slice none 0 0):=zab hb1 (by simp[go_sem])
 have f4:w1.frozen? ⟨w.heap.size,0,none⟩=false:=zam hb1 (v:=.int .i64 0) (by simp[go_sem]) (by simp[go_sem])
 have f5:w1.frozen? ⟨w.heap.size,1,none⟩=false:=zam hb1 (v:=.slice none 0 0) (by simp[go_sem]) (by simp[go_sem])
 have hB1:Below w.heap.size w w1:=zak bel (by simp) hb1
 clear hb1
 go_wp2_with fail
 refine(zjm _ (w.heap.size+1) (w.heap.size+1+1) 0 hr1 (by omega) (by omega)).mono ?_
 rintro e w2 ⟨wd,a2,c2,xs,rfl,⟨hC2,hn2⟩,hxl,hr2,hg2⟩
 have nr:w.heap.size≠w.heap.size+1:=by omega
 replace f4:=zb0 hg2 nr p4 f4
 replace f5:=zb0 hg2 nr p5 f5
 replace p4:=za1 hg2 nr p4
 replace p5:=za1 hg2 nr p5
 have hB2:Below w.heap.size w w2:=⟨hg2.os.trans hB1.os,hg2.tape.trans hB1.tape,hg2.output.trans hB1.output,Nat.le_trans hB1.size hg2.size,fun k hk=>(hg2.block k (by omega) (by simp;omega)).trans (hB1.block k hk)⟩
 go_wp2
 refine bodyPost_ret (v:=.agg #[.int .i64 wd,.slice a2 xs.length c2]) (by simp[results,Tryz.results4,go_sem,p4,p5]) rfl ⟨wd,a2,c2,xs,rfl,?_,hxl,?_⟩
 ·exact(hC2.set (bb:=w.heap.size) (fun b off e=>by have:=hn2 b off e;omega) _).set (bb:=w.heap.size) (fun b off e=>by have:=hn2 b off e;omega) _
 ·exact(hB2.setCell (p:=⟨w.heap.size,0,none⟩) (Nat.le_refl _) _).setCell (p:=⟨w.heap.size,1,none⟩) (Nat.le_refl _) _
theorem zdE.wide{lo lo' hi':Nat}(h:zdE w lo hi a M ad n cp f)(h1:lo'<=lo)(h2:hi<=hi')(h3:hi'<=w.heap.size):zdE w lo' hi' a M ad n cp f:=by
 rcases h with h|⟨b,e,h⟩
 ·exact .inl h
 ·exact .inr ⟨b,e,by have:=h.out;omega,h.cell,h.row,fun k x hk q=>by have:=h.lt k x hk q;omega,h.inj,h3⟩
theorem Sn.wide{B B' hi':Nat}{ga la fa:Option Addr}{gc:Nat}(h:Sn w B hi N cs M l n f ga la fa gc ad cp)(h1:B'<=B)(h2:hi<=hi')(h3:hi'<=w.heap.size):Sn w B' hi' N cs M l n f ga la fa gc ad cp :=
 ⟨h.own.mono h1,h.li,h.feet.wide h1 h2 h3,h.ap.mono h2,fun e q=>Nat.le_trans h1 (h.lo e q),h3⟩
theorem zcH.alloc(h:zcH S w w')(o:Obj):zcH S w (w'.alloc o) :=
 h.trans (zcH.of (Below.alloc (Below.refl _ _) (Nat.le_refl _) _))
theorem zcH.setCell(h:zcH S w w'){p:Addr}{v:Value}(hp:S p.block):zcH S w (w'.setCell p v) :=
 ⟨h.os,h.tape,h.output,by simpa [World.setCell] using h.size,fun k hk hn=>(Below.heap_setCell _ _ _ _ (fun e=>hn (by rw[e];exact hp))).trans (h.block k hk hn)⟩
theorem zr6{B:Nat}(h:hi<=w.heap.size):Sn w B hi 0 [] 0 l n f none none none 0 (fun _=>none) (fun _=>0):=by
 have h0:∀ e,¬ zcp none e:=fun e ⟨x,h,_⟩=>by cases h
 have h1:∀ e,¬ zet 0 (fun _=>none) e:=fun e ⟨k,x,h,_⟩=>by omega
 exact⟨⟨rfl,.inl ⟨rfl,rfl⟩⟩,.inl rfl,.inl rfl,⟨fun e h=>absurd h (h0 e),fun e h=>absurd h (h0 e),fun e h=>absurd h (h0 e),fun e h=>absurd h (h0 e),fun e h=>absurd h (h0 e),fun e h=>by rcases h with h|h|h;exact absurd h (h0 e);exact absurd h (h0 e);exact absurd h (h1 e)⟩,fun e h=>by rcases h with h|h|h|h;exact absurd h (h0 e);exact absurd h (h0 e);exact absurd h (h0 e);exact absurd h (h1 e),h⟩
def zr7(w:World)(wd:Int)(N:Nat)(cs:List (Int × Int))(M:Nat)(l:Nat->Int)(n:Nat->Nat)(f:Nat->Nat->Int)(ok:Bool)(r:Ending)(w':World):Prop :=
 ∃ ga la fa gc lc fc ad cp pa pc na nc,r=.returned (.tuple #[.agg #[.int .i64 wd,.slice ga N gc,.slice la M lc,.slice fa M fc,.slice pa 0 pc,.slice na 0 nc],.bool ok])/\Sn w' w.heap.size w'.heap.size N cs M l n f ga la fa gc ad cp/\Below w.heap.size w w'
theorem zdP{wd tw:Int}(CI:∀(a:Option Addr) (cap:Nat) (w:World),zai w a cs->Calls SqP.prog 8 #[.agg #[.int .i64 wd,.slice a cs.length cap]] w (zpU w tw N tc M l n f ok))(a:Option Addr)(cap:Nat)(w:World)(hC:zai w a cs) :
  Calls SqP.prog 6 #[.agg #[.int .i64 wd,.slice a cs.length cap]] w (zr7 w tw N tc M l n f ok):=by
 obtain⟨w2,hw2⟩:∃ w2,w2=(w.alloc (.cells #[.int .i64 wd,.slice a cs.length cap] 25)).alloc (.cells #[.int .i64 0,.slice none 0 0,.slice none 0 0,.slice none 0 0,.slice none 0 0,.slice none 0 0] 33):=⟨_,rfl⟩
 have H2:Hid (zcN w w2 [(w.heap.size+1,.cells #[.int .i64 0,.slice none 0 0,.slice none 0 0,.slice none 0 0,.slice none 0 0,.slice none 0 0] 33),(w.heap.size,.cells #[.int .i64 wd,.slice a cs.length cap] 25)]):=by rw[hw2];exact zjq _ _ w
 have hz2:w2.heap.size=w.heap.size+2:=by rw[hw2];simp
 have hS:=CI a cap w2 (hC.below H2.out.below)
 have c0:w2.cell? ⟨w.heap.size,0,none⟩=some (.int .i64 wd):=(cell_of_row _ _ 0 _ _ _ (H2.out.lies (w.heap.size,.cells #[.int .i64 wd,.slice a cs.length cap] 25) (by simp)).1).trans rfl
 have c1:w2.cell? ⟨w.heap.size,1,none⟩=some (.slice a cs.length cap):=(cell_of_row _ _ 1 _ _ _ (H2.out.lies (w.heap.size,.cells #[.int .i64 wd,.slice a cs.length cap] 25) (by simp)).1).trans rfl
 have HZ:Hid (w2.heap.size=w.heap.size+2):=hz2
 clear CI hC hz2
 go_enter SqP.func6,Tryz.ntmps6
 go_upto_region 1 with fail
 rw[<- hw2]
 clear hw2
 go_wp2_with fail
 refine hS.mono ?_
 rintro e w3 ⟨ga,la,fa,gc,lc,fc,ad,cp,rfl,hK,hb⟩
 have h3:zcN w w3 [(w.heap.size+1,.cells #[.int .i64 0,.slice none 0 0,.slice none 0 0,.slice none 0 0,.slice none 0 0,.slice none 0 0] 33),(w.heap.size,.cells #[.int .i64 wd,.slice a cs.length cap] 25)]:=H2.out.on hb
 have hrv:=(h3.lies (w.heap.size+1,.cells #[.int .i64 0,.slice none 0 0,.slice none 0 0,.slice none 0 0,.slice none 0 0,.slice none 0 0] 33) (by simp)).1
 obtain⟨g0,g1,g2,g3,g4,g5⟩:=zsc hrv
 have f0:=frozen_of_row _ _ 0 _ _ hrv
 have f1:=frozen_of_row _ _ 1 _ _ hrv
 have f2:=frozen_of_row _ _ 2 _ _ hrv
 have f3:=frozen_of_row _ _ 3 _ _ hrv
 have f4:=frozen_of_row _ _ 4 _ _ hrv
 have f5:=frozen_of_row _ _ 5 _ _ hrv
 have hlt:w.heap.size+1<w3.heap.size:=(gei hrv).1
 have HF:Hid (∀ w',zcH (fun e=>e=w.heap.size+1) w3 w'->Sn w' w.heap.size w'.heap.size N tc M l n f ga la fa gc ad cp/\Below w.heap.size w w'):=by
  intro w' ho
  have:=HZ.out
  exact⟨(hK.off ho (fun e h1 h2 h3=>by omega)).wide (by omega) ho.size (Nat.le_refl _),ho.below h3.below (fun e q=>by omega) (by omega)⟩
 clear hS hK hb h3 H2 hrv HZ c0 c1
 go_wp2_with fail
 refine bodyPost_ret (v:=.tuple #[.agg #[.int .i64 tw,.slice ga N gc,.slice la M lc,.slice fa M fc,.slice none 0 0,.slice none 0 0],.bool ok]) (by simp[results,go_sem,g0,g1,g2,g3,g4,g5,hlt]) rfl ?_
 exact⟨ga,la,fa,gc,lc,fc,ad,cp,none,0,none,0,rfl,HF.out _ (by repeat (first|with_reducible exact zcH.refl _ _|with_reducible refine zcH.alloc ?_ _|(with_reducible refine zcH.setCell ?_ ?_;rotate_left;exact rfl)))⟩
theorem zd4{wd tw:Int}(CS:∀(a:Option Addr) (cap:Nat) (w:World),zai w a cs->Calls SqP.prog 15 #[.agg #[.int .i64 wd,.slice a cs.length cap]] w (zpU w tw N tc M l n f ok))(hno:ok=false->tw=0/\tc=[]/\N=0/\M=0)(a:Option Addr)(cap:Nat)(w:World)(hC:zai w a cs) :
  Calls SqP.prog 5 #[.agg #[.int .i64 wd,.slice a cs.length cap]] w (zr7 w tw N tc M l n f ok):=by
 obtain⟨w2,hw2⟩:∃ w2,w2=(w.alloc (.cells #[.int .i64 wd,.slice a cs.length cap] 25)).alloc (.cells #[.int .i64 0,.slice none 0 0,.slice none 0 0,.slice none 0 0,.slice none 0 0,.slice none 0 0] 33):=⟨_,rfl⟩
 have H2:Hid (zcN w w2 [(w.heap.size+1,.cells #[.int .i64 0,.slice none 0 0,.slice none 0 0,.slice none 0 0,.slice none 0 0,.slice none 0 0] 33),(w.heap.size,.cells #[.int .i64 wd,.slice a cs.length cap] 25)]):=by rw[hw2];exact zjq _ _ w
 have hz2:w2.heap.size=w.heap.size+2:=by rw[hw2];simp
 have hS:=CS a cap w2 (hC.below H2.out.below)
 have c0:w2.cell? ⟨w.heap.size,0,none⟩=some (.int .i64 wd):=(cell_of_row _ _ 0 _ _ _ (H2.out.lies (w.heap.size,.cells #[.int .i64 wd,.slice a cs.length cap] 25) (by simp)).1).trans rfl
 have c1:w2.cell? ⟨w.heap.size,1,none⟩=some (.slice a cs.length cap):=(cell_of_row _ _ 1 _ _ _ (H2.out.lies (w.heap.size,.cells #[.int .i64 wd,.slice a cs.length cap] 25) (by simp)).1).trans rfl
 have HZ:Hid (w2.heap.size=w.heap.size+2):=hz2
 clear CS hC hz2
 go_enter SqP.func5,Tryz.ntmps5
 go_upto_region 1 with fail
 rw[<- hw2]
 clear hw2
 go_wp2_with fail
 refine hS.mono ?_
 rintro e w3 ⟨ga,la,fa,gc,lc,fc,ad,cp,rfl,hK,hb⟩
 have h3:zcN w w3 [(w.heap.size+1,.cells #[.int .i64 0,.slice none 0 0,.slice none 0 0,.slice none 0 0,.slice none 0 0,.slice none 0 0] 33),(w.heap.size,.cells #[.int .i64 wd,.slice a cs.length cap] 25)]:=H2.out.on hb
 have hrv:=(h3.lies (w.heap.size+1,.cells #[.int .i64 0,.slice none 0 0,.slice none 0 0,.slice none 0 0,.slice none 0 0,.slice none 0 0] 33) (by simp)).1
 obtain⟨g0,g1,g2,g3,g4,g5⟩:=zsc hrv
 have f0:=frozen_of_row _ _ 0 _ _ hrv
 have f1:=frozen_of_row _ _ 1 _ _ hrv
 have f2:=frozen_of_row _ _ 2 _ _ hrv
 have f3:=frozen_of_row _ _ 3 _ _ hrv
 have f4:=frozen_of_row _ _ 4 _ _ hrv
 have f5:=frozen_of_row _ _ 5 _ _ hrv
 have hlt:w.heap.size+1<w3.heap.size:=(gei hrv).1
 have HF:Hid (∀ w',zcH (fun e=>e=w.heap.size+1) w3 w'->Sn w' w.heap.size w'.heap.size N tc M l n f ga la fa gc ad cp/\Below w.heap.size w w'):=by
  intro w' ho
  have:=HZ.out
  exact⟨(hK.off ho (fun e h1 h2 h3=>by omega)).wide (by omega) ho.size (Nat.le_refl _),ho.below h3.below (fun e q=>by omega) (by omega)⟩
 clear hS hK hb h3 H2 hrv HZ c0 c1
 rcases ok with _|_
 ·obtain⟨rfl,rfl,rfl,rfl⟩:=hno rfl
  go_wp2_with fail
  refine bodyPost_ret (v:=.tuple #[.agg #[.int .i64 0,.slice none 0 0,.slice none 0 0,.slice none 0 0,.slice none 0 0,.slice none 0 0],.bool false]) (by simp[results,go_sem,g0,g1,g2,g3,g4,g5,hlt]) rfl ?_
  exact⟨none,none,none,0,0,0,_,_,none,0,none,0,rfl,zr6 (Nat.le_refl _),(HF.out _ (by repeat (first|with_reducible exact zcH.refl _ _|with_reducible refine zcH.alloc ?_ _|(with_reducible refine zcH.setCell ?_ ?_;rotate_left;exact rfl)))).2⟩
 ·have z1:w.heap.size<w3.heap.size:=by omega
  have z2:w.heap.size<w3.heap.size+1:=by omega
  go_wp2_with fail
  refine bodyPost_ret (v:=.tuple #[.agg #[.int .i64 tw,.slice ga N gc,.slice la M lc,.slice fa M fc,.slice (some ⟨w3.heap.size+1,0,none⟩) 0 0,.slice (some ⟨w3.heap.size+1+1,0,none⟩) 0 0],.bool true]) (by simp[results,go_sem,g0,g1,g2,g3,g4,g5,hlt,z1,z2]) rfl ?_
  exact⟨ga,la,fa,gc,lc,fc,ad,cp,_,0,_,0,rfl,HF.out _ (by repeat (first|with_reducible exact zcH.refl _ _|with_reducible refine zcH.alloc ?_ _|(with_reducible refine zcH.setCell ?_ ?_;rotate_left;exact rfl)))⟩
set_option maxRecDepth 100000 in
theorem zhJ(a:Option Addr)(n cap:Nat)(f:Nat->Int)(w:World)(h:BytesAt w a n f)(hm:n<=cap/\cap<=9223372036854775807)(hbig:1048576<n) :
  Calls SqP.prog 3 #[.slice a n cap] w fun e w'=>e=.returned (.bool true)/\Below w.heap.size w w':=by
 have hb:(1048576:Int)<(n:Int):=by omega
 go_enter SqP.func3,Tryz.ntmps3
 go_wp2
 go_ret
 exact⟨rfl,Below.refl _ _⟩
set_option maxRecDepth 100000 in
theorem zgi(a:Option Addr)(n cap:Nat)(f:Nat->Int)(w:World)(h:BytesAt w a n f)(hm:n<=cap/\cap<=9223372036854775807)(hsm:n<=1048576) :
  Calls SqP.prog 3 #[.slice a n cap] w fun e w'=>e=.returned (.bool true)/\Below w.heap.size w w':=by
 have hb:(n:Int)<=1048576:=by omega
 go_enter SqP.func3,Tryz.ntmps3
 go_wp2_with fail
 refine(zeK a n cap f w h hsm hm.1 hm.2).mono ?_
 rintro e w1 ⟨wd,a1,c1,cs,rfl,hC1,hl1,hb_w1⟩
 have hz_w1:=hb_w1.size
 have hbS1:Below w1.heap.size w1 (w1.alloc (.cells #[.int .i64 wd,.slice a1 cs.length c1] 25)):=bel
 replace hC1:=hC1.below hbS1
 have g0:(w1.alloc (.cells #[.int .i64 wd,.slice a1 cs.length c1] 25)).cell? ⟨w1.heap.size,0,none⟩=some (.int .i64 wd):=by simp[go_sem]
 have g1:(w1.alloc (.cells #[.int .i64 wd,.slice a1 cs.length c1] 25)).cell? ⟨w1.heap.size,1,none⟩=some (.slice a1 cs.length c1):=by simp[go_sem]
 have hBs1:=zak hb_w1 (by omega) hbS1
 have z01:w.heap.size<=w1.heap.size:=hz_w1
 clear hb_w1 hbS1 h
 rcases hk:okG wd cs with _|_
 ·have CI:=fun (a:Option Addr) (cap:Nat) (w:World) (h:zai w a cs)=>zoI hk (by omega) a cap w h
  have CP:=fun (a:Option Addr) (cap:Nat) (w:World) (h:zai w a cs)=>zpn hk (by omega) a cap w h
  have AI:=fun (a:Option Addr) (cap:Nat) (w:World) (h:zai w a cs)=>zdP CI a cap w h
  have AP:=fun (a:Option Addr) (cap:Nat) (w:World) (h:zai w a cs)=>zd4 CP (fun _=>⟨rfl,rfl,rfl,rfl⟩) a cap w h
  have HI:Hid (∀(a:Option Addr) (cap:Nat) (w:World),zai w a cs->_):=AI
  have HC:Hid (∀(a:Option Addr) (cap:Nat) (w:World),zai w a cs->_):=AP
  clear CI CP AI AP
  go_wp2_with fail
  refine(HC.out a1 c1 _ hC1).mono ?_
  rintro e w2 ⟨a2,b2,e2,c2,d2,f2,r2,s2,p2,u2,x2,v2,rfl,hK2,hb_w2⟩
  have hz_w2:=hb_w2.size
  simp at hz_w2
  replace g0:=zab hb_w2 g0;replace g1:=zab hb_w2 g1
  replace hC1:=hC1.below hb_w2
  have hB_w2:=zak hBs1 (by first|omega|(simp;omega)) hb_w2
  clear hBs1 hb_w2
  have hbX:Below w2.heap.size w2 (w2.alloc (.cells #[.int .i64 0,.slice a2 0 c2,.slice b2 0 d2,.slice e2 0 f2,.slice p2 0 u2,.slice x2 0 v2] 33)):=bel
  replace hK2:=hK2.below hbX
  replace hC1:=hC1.below hbX
  obtain⟨q0,q1,q2,q3,q4,q5⟩:=zrM w2 (.int .i64 0) (.slice a2 0 c2) (.slice b2 0 d2) (.slice e2 0 f2) (.slice p2 0 u2) (.slice x2 0 v2) 33
  have hBX:=zak hB_w2 (by omega) hbX
  have z2:w1.heap.size<w2.heap.size:=by omega
  have G0:=zab hbX g0
  have G1:=zab hbX g1
  go_wp2_with fail
  refine(HI.out a1 c1 _ hC1).mono ?_
  rintro e w3 ⟨a3,b3,e3,c3,d3,f3,r3,s3,p3,u3,x3,v3,rfl,hK3,hb_w3⟩
  have hz_w3:=hb_w3.size
  simp at hz_w3
  replace g0:=zab hb_w3 G0
  replace g1:=zab hb_w3 G1
  replace q0:=zab hb_w3 q0;replace q1:=zab hb_w3 q1;replace q2:=zab hb_w3 q2;replace q3:=zab hb_w3 q3;replace q4:=zab hb_w3 q4;replace q5:=zab hb_w3 q5
  replace hC1:=hC1.below hb_w3
  replace hK2:=hK2.below hb_w3
  have hB_w3:=zak hBX (by simp;omega) hb_w3
  clear hb_w3 hbX hBX G0 G1 hB_w2
  have hbY:Below w3.heap.size w3 (w3.alloc (.cells #[.int .i64 0,.slice a3 0 c3,.slice b3 0 d3,.slice e3 0 f3,.slice p3 0 u3,.slice x3 0 v3] 33)):=bel
  replace hK2:=hK2.below hbY
  replace hK3:=hK3.below hbY
  replace hC1:=hC1.below hbY
  obtain⟨j0,j1,j2,j3,j4,j5⟩:=zrM w3 (.int .i64 0) (.slice a3 0 c3) (.slice b3 0 d3) (.slice e3 0 f3) (.slice p3 0 u3) (.slice x3 0 v3) 33
  have hBY:=zak hB_w3 (by omega) hbY
  have z3:w1.heap.size<w3.heap.size:=by omega
  have z3':w2.heap.size<w3.heap.size:=by omega
  have G0:=zab hbY g0
  have G1:=zab hbY g1
  have Q0:=zab hbY q0
  have Q1:=zab hbY q1
  have Q2:=zab hbY q2
  have Q3:=zab hbY q3
  have Q4:=zab hbY q4
  have Q5:=zab hbY q5
  go_wp2_with fail
  refine(zr3 hK3 hK2 rfl (by omega) (by omega) (fun k h=>by omega)).mono ?_
  rintro e w4 ⟨rfl,hb_w4⟩
  have hz_w4:=hb_w4.size
  simp at hz_w4
  replace g0:=zab hb_w4 G0
  replace g1:=zab hb_w4 G1
  replace q0:=zab hb_w4 Q0
  replace q1:=zab hb_w4 Q1
  replace q2:=zab hb_w4 Q2
  replace q3:=zab hb_w4 Q3
  replace q4:=zab hb_w4 Q4
  replace q5:=zab hb_w4 Q5
  replace j0:=zab hb_w4 j0;replace j1:=zab hb_w4 j1;replace j2:=zab hb_w4 j2;replace j3:=zab hb_w4 j3;replace j4:=zab hb_w4 j4;replace j5:=zab hb_w4 j5
  replace hC1:=hC1.below hb_w4
  replace hK2:=hK2.below hb_w4
  replace hK3:=hK3.below hb_w4
  have hB_w4:=zak hBY (by simp;omega) hb_w4
  clear hb_w4 hbY hBY G0 G1 Q0 Q1 Q2 Q3 Q4 Q5 hB_w3
  go_wp2_with fail
  refine(zr3 hK3 hK2 rfl (by omega) (by omega) (fun k h=>by omega)).mono ?_
  rintro e w5 ⟨rfl,hb_w5⟩
  have hB_w5:=zak hB_w4 (by omega) hb_w5
  go_wp2_with fail
  go_ret
  exact⟨rfl,hB_w5⟩
 ·obtain⟨W,H,S⟩:=zeE hk
  obtain⟨⟨hn25,hn0⟩,hM20⟩:=zjK S
  obtain⟨M,hM⟩:∃ M,2 * (W+H)=M:=⟨_,rfl⟩
  obtain⟨N,hN⟩:∃ N,cs.length=N:=⟨_,rfl⟩
  rw[hM] at hM20
  rw[hN] at hn25 hn0
  have hnf:∀ k:Nat,k<M->(zaH wd cs (k:Int)).length<=1000:=fun k _=>Nat.le_trans (zjc _ _) (by omega)
  have CS:=fun (a:Option Addr) (cap:Nat) (w:World) (h:zai w a cs)=>znz S hM hN a cap w h
  have CI:=fun (a:Option Addr) (cap:Nat) (w:World) (h:zai w a cs)=>zhY S hM hN a cap w h
  have AI:=fun (a:Option Addr) (cap:Nat) (w:World) (h:zai w a cs)=>zdP CI a cap w h
  have AP:=fun (a:Option Addr) (cap:Nat) (w:World) (h:zai w a cs)=>zd4 CS (fun h=>by cases h) a cap w h
  have CO:=fun (B hi:Nat) (ga la fa pa na:Option Addr) (gc lc fc pc nc:Nat) (ad:Nat->Option Addr) (cp:Nat->Nat) (w:World) (h:Sn w B hi N cs M (fun j=>zaW wd cs (j:Int)) (fun j=>(zaH wd cs (j:Int)).length) (fun j i=>(zaH wd cs (j:Int)).getD i 0) ga la fa gc ad cp)=>zhK S hM hN hM20 hnf (lc:=lc) (fc:=fc) h pa na pc nc
  rw[hN] at CI AI AP g0 g1
  have HN:Hid (cs.length=N):=hN
  have HC:Hid (∀(a:Option Addr) (cap:Nat) (w:World),zai w a cs->_):=AP
  have HI:Hid (∀(a:Option Addr) (cap:Nat) (w:World),zai w a cs->_):=AI
  have HS:Hid (∀(a:Option Addr) (cap:Nat) (w:World),zai w a cs->_):=CI
  have HO:Hid (∀(B hi:Nat) (ga la fa pa na:Option Addr) (gc lc fc pc nc:Nat) (ad:Nat->Option Addr) (cp:Nat->Nat) (w:World),Sn w B hi N cs M (fun j=>zaW wd cs (j:Int)) (fun j=>(zaH wd cs (j:Int)).length) (fun j i=>(zaH wd cs (j:Int)).getD i 0) ga la fa gc ad cp->_):=CO
  have HF:Hid (∀ k:Nat,k<M->(zaH wd cs (k:Int)).length<=1000):=hnf
  rw[hN] at hBs1 hC1 ⊢
  clear hk S hM CS CI AI AP CO hN hl1 hnf
  go_wp2_with fail
  refine(HC.out a1 c1 _ hC1).mono ?_
  rintro e w2 ⟨a2,b2,e2,c2,d2,f2,r2,s2,p2,u2,x2,v2,rfl,hK2,hb_w2⟩
  have hz_w2:=hb_w2.size
  simp at hz_w2
  replace g0:=zab hb_w2 g0;replace g1:=zab hb_w2 g1
  replace hC1:=hC1.below hb_w2
  have hB_w2:=zak hBs1 (by first|omega|(simp;omega)) hb_w2
  clear hBs1 hb_w2
  have hbX:Below w2.heap.size w2 (w2.alloc (.cells #[.int .i64 wd,.slice a2 N c2,.slice b2 M d2,.slice e2 M f2,.slice p2 0 u2,.slice x2 0 v2] 33)):=bel
  replace hK2:=hK2.below hbX
  replace hC1:=hC1.below hbX
  obtain⟨q0,q1,q2,q3,q4,q5⟩:=zrM w2 (.int .i64 wd) (.slice a2 N c2) (.slice b2 M d2) (.slice e2 M f2) (.slice p2 0 u2) (.slice x2 0 v2) 33
  have hBX:=zak hB_w2 (by omega) hbX
  have z2:w1.heap.size<w2.heap.size:=by omega
  have G0:=zab hbX g0
  have G1:=zab hbX g1
  go_wp2_with fail
  refine(HI.out a1 c1 _ hC1).mono ?_
  rintro e w3 ⟨a3,b3,e3,c3,d3,f3,r3,s3,p3,u3,x3,v3,rfl,hK3,hb_w3⟩
  have hz_w3:=hb_w3.size
  simp at hz_w3
  replace g0:=zab hb_w3 G0
  replace g1:=zab hb_w3 G1
  replace q0:=zab hb_w3 q0;replace q1:=zab hb_w3 q1;replace q2:=zab hb_w3 q2;replace q3:=zab hb_w3 q3;replace q4:=zab hb_w3 q4;replace q5:=zab hb_w3 q5
  replace hC1:=hC1.below hb_w3
  replace hK2:=hK2.below hb_w3
  have hB_w3:=zak hBX (by simp;omega) hb_w3
  clear hb_w3 hbX hBX G0 G1 hB_w2
  have hbY:Below w3.heap.size w3 (w3.alloc (.cells #[.int .i64 wd,.slice a3 N c3,.slice b3 M d3,.slice e3 M f3,.slice p3 0 u3,.slice x3 0 v3] 33)):=bel
  replace hK2:=hK2.below hbY
  replace hK3:=hK3.below hbY
  replace hC1:=hC1.below hbY
  obtain⟨j0,j1,j2,j3,j4,j5⟩:=zrM w3 (.int .i64 wd) (.slice a3 N c3) (.slice b3 M d3) (.slice e3 M f3) (.slice p3 0 u3) (.slice x3 0 v3) 33
  have hBY:=zak hB_w3 (by omega) hbY
  have z3:w1.heap.size<w3.heap.size:=by omega
  have z3':w2.heap.size<w3.heap.size:=by omega
  have G0:=zab hbY g0
  have G1:=zab hbY g1
  have Q0:=zab hbY q0
  have Q1:=zab hbY q1
  have Q2:=zab hbY q2
  have Q3:=zab hbY q3
  have Q4:=zab hbY q4
  have Q5:=zab hbY q5
  go_wp2_with fail
  refine(zr3 hK3 hK2 HN.out hn25 hM20 HF.out).mono ?_
  rintro e w4 ⟨rfl,hb_w4⟩
  have hz_w4:=hb_w4.size
  simp at hz_w4
  replace g0:=zab hb_w4 G0
  replace g1:=zab hb_w4 G1
  replace q0:=zab hb_w4 Q0
  replace q1:=zab hb_w4 Q1
  replace q2:=zab hb_w4 Q2
  replace q3:=zab hb_w4 Q3
  replace q4:=zab hb_w4 Q4
  replace q5:=zab hb_w4 Q5
  replace j0:=zab hb_w4 j0;replace j1:=zab hb_w4 j1;replace j2:=zab hb_w4 j2;replace j3:=zab hb_w4 j3;replace j4:=zab hb_w4 j4;replace j5:=zab hb_w4 j5
  replace hC1:=hC1.below hb_w4
  replace hK2:=hK2.below hb_w4
  replace hK3:=hK3.below hb_w4
  have hB_w4:=zak hBY (by simp;omega) hb_w4
  clear hb_w4 hbY hBY G0 G1 Q0 Q1 Q2 Q3 Q4 Q5 hB_w3
  clear hK2 q0 q1 q2 q3 q4 q5
  go_wp2_with fail
  refine(HS.out a1 c1 _ hC1).mono ?_
  rintro e w5 ⟨a5,b5,e5,c5,d5,f5,r5,s5,rfl,hK5,hb⟩
  have B5:Below w.heap.size w w5:=zak hB_w4 (by first|omega|(simp;omega)) hb
  replace hK3:=hK3.below hb
  replace j0:=zab hb j0;replace j1:=zab hb j1;replace j2:=zab hb j2;replace j3:=zab hb j3;replace j4:=zab hb j4;replace j5:=zab hb j5
  clear hb hC1 g0 g1 hB_w4
  obtain⟨w6,e6⟩:∃ w6,w6=w5.alloc (.cells #[.int .i64 wd,.slice a5 N c5,.slice b5 M d5,.slice e5 M f5] 30):=⟨_,rfl⟩
  obtain⟨y,hb⟩:=za5 (.cells #[.int .i64 wd,.slice a5 N c5,.slice b5 M d5,.slice e5 M f5] 30) w5
  rw[<- e6] at y hb
  have B6:Below w.heap.size w w6:=zak B5 B5.size hb
  replace hK3:=hK3.below hb
  replace hK5:=hK5.below hb
  replace j0:=zab hb j0;replace j1:=zab hb j1;replace j2:=zab hb j2;replace j3:=zab hb j3;replace j4:=zab hb j4;replace j5:=zab hb j5
  obtain⟨y0,y1,y2,y3⟩:=zmS y
  clear hb B5 y
  go_upto_region 9 with fail
  rw[<- e6]
  clear e6
  go_wp2_with fail
  refine(zdk wd a3 b3 e3 p3 x3 N c3 M d3 f3 u3 v3 w6 (fun w' hb=>HO.out _ _ _ _ _ _ _ _ d3 f3 _ _ _ _ w' (hK3.below hb))).mono ?_
  rintro e w7 ⟨rfl,hb⟩
  have B7:Below w.heap.size w w7:=zak B6 B6.size hb
  replace hK3:=hK3.below hb
  replace hK5:=hK5.below hb
  replace j0:=zab hb j0;replace j1:=zab hb j1;replace j2:=zab hb j2;replace j3:=zab hb j3;replace j4:=zab hb j4;replace j5:=zab hb j5;replace y0:=zab hb y0;replace y1:=zab hb y1;replace y2:=zab hb y2;replace y3:=zab hb y3
  clear hb B6
  obtain⟨w8,e8⟩:∃ w8,w8=w7.alloc (.cells #[.int .i64 0,.slice none 0 0,.slice none 0 0,.slice none 0 0,.slice none 0 0,.slice none 0 0] 33):=⟨_,rfl⟩
  obtain⟨y,hb⟩:=za5 (.cells #[.int .i64 0,.slice none 0 0,.slice none 0 0,.slice none 0 0,.slice none 0 0,.slice none 0 0] 33) w7
  rw[<- e8] at y hb
  have B8:Below w.heap.size w w8:=zak B7 B7.size hb
  replace hK3:=hK3.below hb
  replace hK5:=hK5.below hb
  replace j0:=zab hb j0;replace j1:=zab hb j1;replace j2:=zab hb j2;replace j3:=zab hb j3;replace j4:=zab hb j4;replace j5:=zab hb j5;replace y0:=zab hb y0;replace y1:=zab hb y1;replace y2:=zab hb y2;replace y3:=zab hb y3
  clear hb B7 y
  go_upto_region 10 with fail
  rw[<- e8]
  clear e8
  go_wp2_with fail
  refine(zhL wd a3 b3 e3 p3 x3 N c3 M d3 f3 u3 v3 w8 (fun w' hb=>HO.out _ _ _ _ _ _ _ _ d3 f3 _ _ _ _ w' (hK3.below hb))).mono ?_
  rintro e w9 ⟨rfl,hb⟩
  have B9:Below w.heap.size w w9:=zak B8 B8.size hb
  replace hK3:=hK3.below hb
  replace hK5:=hK5.below hb
  replace j0:=zab hb j0;replace j1:=zab hb j1;replace j2:=zab hb j2;replace j3:=zab hb j3;replace j4:=zab hb j4;replace j5:=zab hb j5;replace y0:=zab hb y0;replace y1:=zab hb y1;replace y2:=zab hb y2;replace y3:=zab hb y3
  clear hb B8
  obtain⟨w10,e10⟩:∃ w10,w10=w9.alloc (.cells #[.int .i64 0,.slice none 0 0,.slice none 0 0,.slice none 0 0,.slice none 0 0,.slice none 0 0] 33):=⟨_,rfl⟩
  obtain⟨y,hb⟩:=za5 (.cells #[.int .i64 0,.slice none 0 0,.slice none 0 0,.slice none 0 0,.slice none 0 0,.slice none 0 0] 33) w9
  rw[<- e10] at y hb
  have B10:Below w.heap.size w w10:=zak B9 B9.size hb
  replace hK3:=hK3.below hb
  replace hK5:=hK5.below hb
  replace j0:=zab hb j0;replace j1:=zab hb j1;replace j2:=zab hb j2;replace j3:=zab hb j3;replace j4:=zab hb j4;replace j5:=zab hb j5;replace y0:=zab hb y0;replace y1:=zab hb y1;replace y2:=zab hb y2;replace y3:=zab hb y3
  clear hb B9 y
  go_upto_region 11 with fail
  rw[<- e10]
  clear e10
  go_wp2_with fail
  refine(zsd hK3 hK5 HN.out hn25 hM20 HF.out).mono ?_
  rintro e w11 ⟨rfl,hb⟩
  have B11:Below w.heap.size w w11:=zak B10 B10.size hb
  have hO:=HO.out _ _ _ _ _ p3 x3 _ d3 f3 u3 v3 _ _ w11 (hK3.below hb)
  replace j0:=zab hb j0;replace j1:=zab hb j1;replace j2:=zab hb j2;replace j3:=zab hb j3;replace j4:=zab hb j4;replace j5:=zab hb j5
  clear hb B10 y0 y1 y2 y3 hK3 hK5
  go_wp2_with fail
  refine hO.mono ?_
  rintro e w12 ⟨rfl,hb⟩
  have B12:Below w.heap.size w w12:=zak B11 B11.size hb
  clear hb B11 hO j0 j1 j2 j3 j4 j5
  go_wp2_with fail
  go_ret
  exact⟨rfl,B12⟩
theorem zhI(a:Option Addr)(n cap:Nat)(f:Nat->Int)(w:World)(h:BytesAt w a n f)(hm:n<=cap/\cap<=9223372036854775807) :
  Calls SqP.prog 3 #[.slice a n cap] w fun e w'=>e=.returned (.bool true)/\Below w.heap.size w w':=by
 by_cases hs:n<=1048576
 ·exact zgi a n cap f w h hm hs
 ·exact zhJ a n cap f w h hm (by omega)
