/- Part. -/
import Derived.Test.YthfhlgdeghnggaaGreatTAr
set_option maxHeartbeats 2000000
set_option linter.unusedVariables false
namespace Go.Proofs.YthfhlgdeghnggaaGreat
variable{cs:List (Int × Int)}
namespace Sp
variable{aLt:Nat->Func->Func}
open Go.RowKit
theorem zpP(W H:Nat)(a:Option Addr)(n cap:Nat)(w:World)(hW:1<=W/\W<=5)(hH:n / W=H)(hn:n<=25)(hH2:H<=25)(x r c r2 c2 m:Int)(hx:0<=x/\x<=24)(eq1:x / (W:Int)=r)(eq2:x % (W:Int)=c)(hr:0<=r/\r<=24)(hc:0<=c/\c<=4)(er:r+zbg 0=r2)(ec:c+zbx 0=c2)(hr2:-1<=r2/\r2<=25)(hc2:-1<=c2/\c2<=5)(em:r2 * (W:Int)=m)(hm:-5<=m/\m<=125)(b:Bool)(hb:inG r2 c2 W H=b) :
  Calls (SqG.prog aLt) 139 #[.agg #[.int .i64 (W:Int),.slice a n cap],.int .i64 x,.int .i64 0] w fun e w'=>e=.returned (zby (if b then (m+c2,0,true) else (0,0,false)))/\Below w.heap.size w w':=by
 have HH:Hid (n / W=H):=hH
 have hz:((W:Int) == 0)=false:=by simp;omega
 have hne0:¬ (W:Int)=0:=by omega
 have hneN:¬ W=0:=by omega
 have hzN:(W == 0)=false:=by simp;omega
 have e6:x.tdiv (W:Int)=r:=by rw[<- eq1];exact Int.tdiv_eq_ediv_of_nonneg (by omega)
 have e7:x.tmod (W:Int)=c:=by rw[<- eq2];exact Int.tmod_eq_emod_of_nonneg (by omega)
 have wr:IntKind.i64.wrap r=r:=IntWalk.i64_in _ (by omega)
 have wcc:IntKind.i64.wrap c=c:=IntWalk.i64_in _ (by omega)
 have er2:r+(-1)=r2:=by rw[<- er];simp[zbg]
 have ec2:c+(0)=c2:=by rw[<- ec];simp[zbx]
 have w2:IntKind.i64.wrap (r+(-1))=r2:=by rw[er2];exact IntWalk.i64_in _ (by omega)
 have w3:IntKind.i64.wrap (c+(0))=c2:=by rw[ec2];exact IntWalk.i64_in _ (by omega)
 have w1:IntKind.i64.wrap (r2 * (W:Int))=m:=by rw[em];exact IntWalk.i64_in _ (by omega)
 have hB:Hid (inG r2 c2 W H=b):=hb
 have hne:(1:Int)<=(W:Int):=by omega
 have x0:0<=x:=hx.1
 clear hH er ec em hb
 go_enter SqG.func139,Tryz.ntmps139
 go_wp2
 go_region
 obtain⟨u1,hu1⟩:∃ u1,u1=(((w.alloc (.cells #[.int .i64 (W:Int),.slice a n cap] 33)).alloc (.cells #[.int .i64 0,.int .i64 0] 144)).alloc (.cells #[.int .i64 (-1),.int .i64 0,.int .i64 1,.int .i64 0] 3)).drew:=⟨_,rfl⟩
 have hB1:Below w.heap.size w u1:=by rw[hu1];exact bel
 have hz1:u1.heap.size=w.heap.size+3:=by rw[hu1];simp[World.drew]
 have g0:u1.cell? ⟨w.heap.size,0,none⟩=some (.int .i64 (W:Int)):=by rw[hu1];simp[go_sem]
 have g1:u1.cell? ⟨w.heap.size,1,none⟩=some (.slice a n cap):=by rw[hu1];simp[go_sem]
 have q0:u1.cell? ⟨w.heap.size+1,0,none⟩=some (.int .i64 0):=by rw[hu1];simp[go_sem]
 have q1:u1.cell? ⟨w.heap.size+1,1,none⟩=some (.int .i64 0):=by rw[hu1];simp[go_sem]
 have f0:u1.frozen? ⟨w.heap.size+1,0,none⟩=false:=by rw[hu1];simp[go_sem]
 have f1:u1.frozen? ⟨w.heap.size+1,1,none⟩=false:=by rw[hu1];simp[go_sem]
 rw[<- hu1]
 clear hu1
 go_wp2
 go_region
 obtain⟨u2,hu2⟩:∃ u2,u2=(u1.alloc (.cells #[.int .i64 0,.int .i64 1,.int .i64 0,.int .i64 (-1)] 3)).drew:=⟨_,rfl⟩
 have hb2:Below u1.heap.size u1 u2:=by rw[hu2];exact bel
 rw[<- hu2]
 clear hu2
 replace f0:=zam hb2 q0 f0
 replace f1:=zam hb2 q1 f1
 replace g0:=zab hb2 g0;replace g1:=zab hb2 g1;replace q0:=zab hb2 q0;replace q1:=zab hb2 q1
 have hz2:=hb2.size
 have hB2:=zaj hB1 (by omega) hb2
 clear hb2 hB1
 go_wp2_with fail
 refine(zcv W H _ _ _ _ hW.1 (by omega) HH.out).mono ?_
 rintro e u3 ⟨rfl,hb3⟩
 replace f0:=zam hb3 q0 f0
 replace f1:=zam hb3 q1 f1
 replace g0:=zab hb3 g0;replace g1:=zab hb3 g1;replace q0:=zab hb3 q0;replace q1:=zab hb3 q1
 have hz3:=hb3.size
 have hB3:=zaj hB2 (by omega) hb3
 clear hb3 hB2
 by_cases p1:inB r2 0 ((H:Int) - 1)=true
 ·by_cases p2:inB c2 0 ((W:Int) - 1)=true
  ·have eb:b=true:=by rw[<- hB.out];simp[inB] at p1 p2;simp[inG];omega
   subst eb
   go_wp2_with (go_at_call 61;refine(zaI _ _ _ _).mono ?_;rintro e w' ⟨rfl,rfl⟩)
   refine bodyPost_ret (v:=zby (m+c2,0,true)) (by simp[results,Tryz.results139,go_sem,q0,q1,zby]) rfl ⟨by simp,?_⟩
   exact(hB3.setCell (p:=⟨w.heap.size+1,0,none⟩) (by simp) _).setCell (p:=⟨w.heap.size+1,1,none⟩) (by simp) _
  ·have p2f:inB c2 0 ((W:Int) - 1)=false:=by simpa using p2
   have eb:b=false:=by rw[<- hB.out];simp[inB] at p1 p2;simp[inG];omega
   subst eb
   clear p2
   go_wp2_with (go_at_call 61;refine(zaI _ _ _ _).mono ?_;rintro e w' ⟨rfl,rfl⟩)
   refine bodyPost_ret (v:=zby (0,0,false)) (by simp[results,Tryz.results139,go_sem,q0,q1,zby]) rfl ⟨by simp,?_⟩
   exact(hB3.setCell (p:=⟨w.heap.size+1,0,none⟩) (by simp) _).setCell (p:=⟨w.heap.size+1,1,none⟩) (by simp) _
 ·have p1f:inB r2 0 ((H:Int) - 1)=false:=by simpa using p1
  have eb:b=false:=by rw[<- hB.out];simp[inB] at p1;simp[inG];omega
  subst eb
  clear p1
  go_wp2_with (go_at_call 61;refine(zaI _ _ _ _).mono ?_;rintro e w' ⟨rfl,rfl⟩)
  refine bodyPost_ret (v:=zby (0,0,false)) (by simp[results,Tryz.results139,go_sem,q0,q1,zby]) rfl ⟨by simp,?_⟩
  exact(hB3.setCell (p:=⟨w.heap.size+1,0,none⟩) (by simp) _).setCell (p:=⟨w.heap.size+1,1,none⟩) (by simp) _
theorem zpQ(W H:Nat)(a:Option Addr)(n cap:Nat)(w:World)(hW:1<=W/\W<=5)(hH:n / W=H)(hn:n<=25)(hH2:H<=25)(x r c r2 c2 m:Int)(hx:0<=x/\x<=24)(eq1:x / (W:Int)=r)(eq2:x % (W:Int)=c)(hr:0<=r/\r<=24)(hc:0<=c/\c<=4)(er:r+zbg 1=r2)(ec:c+zbx 1=c2)(hr2:-1<=r2/\r2<=25)(hc2:-1<=c2/\c2<=5)(em:r2 * (W:Int)=m)(hm:-5<=m/\m<=125)(b:Bool)(hb:inG r2 c2 W H=b) :
  Calls (SqG.prog aLt) 139 #[.agg #[.int .i64 (W:Int),.slice a n cap],.int .i64 x,.int .i64 1] w fun e w'=>e=.returned (zby (if b then (m+c2,1,true) else (0,0,false)))/\Below w.heap.size w w':=by
 have HH:Hid (n / W=H):=hH
 have hz:((W:Int) == 0)=false:=by simp;omega
 have hne0:¬ (W:Int)=0:=by omega
 have hneN:¬ W=0:=by omega
 have hzN:(W == 0)=false:=by simp;omega
 have e6:x.tdiv (W:Int)=r:=by rw[<- eq1];exact Int.tdiv_eq_ediv_of_nonneg (by omega)
 have e7:x.tmod (W:Int)=c:=by rw[<- eq2];exact Int.tmod_eq_emod_of_nonneg (by omega)
 have wr:IntKind.i64.wrap r=r:=IntWalk.i64_in _ (by omega)
 have wcc:IntKind.i64.wrap c=c:=IntWalk.i64_in _ (by omega)
 have er2:r+(0)=r2:=by rw[<- er];simp[zbg]
 have ec2:c+(1)=c2:=by rw[<- ec];simp[zbx]
 have w2:IntKind.i64.wrap (r+(0))=r2:=by rw[er2];exact IntWalk.i64_in _ (by omega)
 have w3:IntKind.i64.wrap (c+(1))=c2:=by rw[ec2];exact IntWalk.i64_in _ (by omega)
 have w1:IntKind.i64.wrap (r2 * (W:Int))=m:=by rw[em];exact IntWalk.i64_in _ (by omega)
 have hB:Hid (inG r2 c2 W H=b):=hb
 have hne:(1:Int)<=(W:Int):=by omega
 have x0:0<=x:=hx.1
 clear hH er ec em hb
 go_enter SqG.func139,Tryz.ntmps139
 go_wp2
 go_region
 obtain⟨u1,hu1⟩:∃ u1,u1=(((w.alloc (.cells #[.int .i64 (W:Int),.slice a n cap] 33)).alloc (.cells #[.int .i64 0,.int .i64 0] 144)).alloc (.cells #[.int .i64 (-1),.int .i64 0,.int .i64 1,.int .i64 0] 3)).drew:=⟨_,rfl⟩
 have hB1:Below w.heap.size w u1:=by rw[hu1];exact bel
 have hz1:u1.heap.size=w.heap.size+3:=by rw[hu1];simp[World.drew]
 have g0:u1.cell? ⟨w.heap.size,0,none⟩=some (.int .i64 (W:Int)):=by rw[hu1];simp[go_sem]
 have g1:u1.cell? ⟨w.heap.size,1,none⟩=some (.slice a n cap):=by rw[hu1];simp[go_sem]
 have q0:u1.cell? ⟨w.heap.size+1,0,none⟩=some (.int .i64 0):=by rw[hu1];simp[go_sem]
 have q1:u1.cell? ⟨w.heap.size+1,1,none⟩=some (.int .i64 0):=by rw[hu1];simp[go_sem]
 have f0:u1.frozen? ⟨w.heap.size+1,0,none⟩=false:=by rw[hu1];simp[go_sem]
 have f1:u1.frozen? ⟨w.heap.size+1,1,none⟩=false:=by rw[hu1];simp[go_sem]
 rw[<- hu1]
 clear hu1
 go_wp2
 go_region
 obtain⟨u2,hu2⟩:∃ u2,u2=(u1.alloc (.cells #[.int .i64 0,.int .i64 1,.int .i64 0,.int .i64 (-1)] 3)).drew:=⟨_,rfl⟩
 have hb2:Below u1.heap.size u1 u2:=by rw[hu2];exact bel
 rw[<- hu2]
 clear hu2
 replace f0:=zam hb2 q0 f0
 replace f1:=zam hb2 q1 f1
 replace g0:=zab hb2 g0;replace g1:=zab hb2 g1;replace q0:=zab hb2 q0;replace q1:=zab hb2 q1
 have hz2:=hb2.size
 have hB2:=zaj hB1 (by omega) hb2
 clear hb2 hB1
 go_wp2_with fail
 refine(zcv W H _ _ _ _ hW.1 (by omega) HH.out).mono ?_
 rintro e u3 ⟨rfl,hb3⟩
 replace f0:=zam hb3 q0 f0
 replace f1:=zam hb3 q1 f1
 replace g0:=zab hb3 g0;replace g1:=zab hb3 g1;replace q0:=zab hb3 q0;replace q1:=zab hb3 q1
 have hz3:=hb3.size
 have hB3:=zaj hB2 (by omega) hb3
 clear hb3 hB2
 by_cases p1:inB r2 0 ((H:Int) - 1)=true
 ·by_cases p2:inB c2 0 ((W:Int) - 1)=true
  ·have eb:b=true:=by rw[<- hB.out];simp[inB] at p1 p2;simp[inG];omega
   subst eb
   go_wp2_with (go_at_call 61;refine(zaI _ _ _ _).mono ?_;rintro e w' ⟨rfl,rfl⟩)
   refine bodyPost_ret (v:=zby (m+c2,1,true)) (by simp[results,Tryz.results139,go_sem,q0,q1,zby]) rfl ⟨by simp,?_⟩
   exact(hB3.setCell (p:=⟨w.heap.size+1,0,none⟩) (by simp) _).setCell (p:=⟨w.heap.size+1,1,none⟩) (by simp) _
  ·have p2f:inB c2 0 ((W:Int) - 1)=false:=by simpa using p2
   have eb:b=false:=by rw[<- hB.out];simp[inB] at p1 p2;simp[inG];omega
   subst eb
   clear p2
   go_wp2_with (go_at_call 61;refine(zaI _ _ _ _).mono ?_;rintro e w' ⟨rfl,rfl⟩)
   refine bodyPost_ret (v:=zby (0,0,false)) (by simp[results,Tryz.results139,go_sem,q0,q1,zby]) rfl ⟨by simp,?_⟩
   exact(hB3.setCell (p:=⟨w.heap.size+1,0,none⟩) (by simp) _).setCell (p:=⟨w.heap.size+1,1,none⟩) (by simp) _
 ·have p1f:inB r2 0 ((H:Int) - 1)=false:=by simpa using p1
  have eb:b=false:=by rw[<- hB.out];simp[inB] at p1;simp[inG];omega
  subst eb
  clear p1
  go_wp2_with (go_at_call 61;refine(zaI _ _ _ _).mono ?_;rintro e w' ⟨rfl,rfl⟩)
  refine bodyPost_ret (v:=zby (0,0,false)) (by simp[results,Tryz.results139,go_sem,q0,q1,zby]) rfl ⟨by simp,?_⟩
  exact(hB3.setCell (p:=⟨w.heap.size+1,0,none⟩) (by simp) _).setCell (p:=⟨w.heap.size+1,1,none⟩) (by simp) _
theorem zpR(W H:Nat)(a:Option Addr)(n cap:Nat)(w:World)(hW:1<=W/\W<=5)(hH:n / W=H)(hn:n<=25)(hH2:H<=25)(x r c r2 c2 m:Int)(hx:0<=x/\x<=24)(eq1:x / (W:Int)=r)(eq2:x % (W:Int)=c)(hr:0<=r/\r<=24)(hc:0<=c/\c<=4)(er:r+zbg 2=r2)(ec:c+zbx 2=c2)(hr2:-1<=r2/\r2<=25)(hc2:-1<=c2/\c2<=5)(em:r2 * (W:Int)=m)(hm:-5<=m/\m<=125)(b:Bool)(hb:inG r2 c2 W H=b) :
  Calls (SqG.prog aLt) 139 #[.agg #[.int .i64 (W:Int),.slice a n cap],.int .i64 x,.int .i64 2] w fun e w'=>e=.returned (zby (if b then (m+c2,2,true) else (0,0,false)))/\Below w.heap.size w w':=by
 have HH:Hid (n / W=H):=hH
 have hz:((W:Int) == 0)=false:=by simp;omega
 have hne0:¬ (W:Int)=0:=by omega
 have hneN:¬ W=0:=by omega
 have hzN:(W == 0)=false:=by simp;omega
 have e6:x.tdiv (W:Int)=r:=by rw[<- eq1];exact Int.tdiv_eq_ediv_of_nonneg (by omega)
 have e7:x.tmod (W:Int)=c:=by rw[<- eq2];exact Int.tmod_eq_emod_of_nonneg (by omega)
 have wr:IntKind.i64.wrap r=r:=IntWalk.i64_in _ (by omega)
 have wcc:IntKind.i64.wrap c=c:=IntWalk.i64_in _ (by omega)
 have er2:r+(1)=r2:=by rw[<- er];simp[zbg]
 have ec2:c+(0)=c2:=by rw[<- ec];simp[zbx]
 have w2:IntKind.i64.wrap (r+(1))=r2:=by rw[er2];exact IntWalk.i64_in _ (by omega)
 have w3:IntKind.i64.wrap (c+(0))=c2:=by rw[ec2];exact IntWalk.i64_in _ (by omega)
 have w1:IntKind.i64.wrap (r2 * (W:Int))=m:=by rw[em];exact IntWalk.i64_in _ (by omega)
 have hB:Hid (inG r2 c2 W H=b):=hb
 have hne:(1:Int)<=(W:Int):=by omega
 have x0:0<=x:=hx.1
 clear hH er ec em hb
 go_enter SqG.func139,Tryz.ntmps139
 go_wp2
 go_region
 obtain⟨u1,hu1⟩:∃ u1,u1=(((w.alloc (.cells #[.int .i64 (W:Int),.slice a n cap] 33)).alloc (.cells #[.int .i64 0,.int .i64 0] 144)).alloc (.cells #[.int .i64 (-1),.int .i64 0,.int .i64 1,.int .i64 0] 3)).drew:=⟨_,rfl⟩
 have hB1:Below w.heap.size w u1:=by rw[hu1];exact bel
 have hz1:u1.heap.size=w.heap.size+3:=by rw[hu1];simp[World.drew]
 have g0:u1.cell? ⟨w.heap.size,0,none⟩=some (.int .i64 (W:Int)):=by rw[hu1];simp[go_sem]
 have g1:u1.cell? ⟨w.heap.size,1,none⟩=some (.slice a n cap):=by rw[hu1];simp[go_sem]
 have q0:u1.cell? ⟨w.heap.size+1,0,none⟩=some (.int .i64 0):=by rw[hu1];simp[go_sem]
 have q1:u1.cell? ⟨w.heap.size+1,1,none⟩=some (.int .i64 0):=by rw[hu1];simp[go_sem]
 have f0:u1.frozen? ⟨w.heap.size+1,0,none⟩=false:=by rw[hu1];simp[go_sem]
 have f1:u1.frozen? ⟨w.heap.size+1,1,none⟩=false:=by rw[hu1];simp[go_sem]
 rw[<- hu1]
 clear hu1
 go_wp2
 go_region
 obtain⟨u2,hu2⟩:∃ u2,u2=(u1.alloc (.cells #[.int .i64 0,.int .i64 1,.int .i64 0,.int .i64 (-1)] 3)).drew:=⟨_,rfl⟩
 have hb2:Below u1.heap.size u1 u2:=by rw[hu2];exact bel
 rw[<- hu2]
 clear hu2
 replace f0:=zam hb2 q0 f0
 replace f1:=zam hb2 q1 f1
 replace g0:=zab hb2 g0;replace g1:=zab hb2 g1;replace q0:=zab hb2 q0;replace q1:=zab hb2 q1
 have hz2:=hb2.size
 have hB2:=zaj hB1 (by omega) hb2
 clear hb2 hB1
 go_wp2_with fail
 refine(zcv W H _ _ _ _ hW.1 (by omega) HH.out).mono ?_
 rintro e u3 ⟨rfl,hb3⟩
 replace f0:=zam hb3 q0 f0
 replace f1:=zam hb3 q1 f1
 replace g0:=zab hb3 g0;replace g1:=zab hb3 g1;replace q0:=zab hb3 q0;replace q1:=zab hb3 q1
 have hz3:=hb3.size
 have hB3:=zaj hB2 (by omega) hb3
 clear hb3 hB2
 by_cases p1:inB r2 0 ((H:Int) - 1)=true
 ·by_cases p2:inB c2 0 ((W:Int) - 1)=true
  ·have eb:b=true:=by rw[<- hB.out];simp[inB] at p1 p2;simp[inG];omega
   subst eb
   go_wp2_with (go_at_call 61;refine(zaI _ _ _ _).mono ?_;rintro e w' ⟨rfl,rfl⟩)
   refine bodyPost_ret (v:=zby (m+c2,2,true)) (by simp[results,Tryz.results139,go_sem,q0,q1,zby]) rfl ⟨by simp,?_⟩
   exact(hB3.setCell (p:=⟨w.heap.size+1,0,none⟩) (by simp) _).setCell (p:=⟨w.heap.size+1,1,none⟩) (by simp) _
  ·have p2f:inB c2 0 ((W:Int) - 1)=false:=by simpa using p2
   have eb:b=false:=by rw[<- hB.out];simp[inB] at p1 p2;simp[inG];omega
   subst eb
   clear p2
   go_wp2_with (go_at_call 61;refine(zaI _ _ _ _).mono ?_;rintro e w' ⟨rfl,rfl⟩)
   refine bodyPost_ret (v:=zby (0,0,false)) (by simp[results,Tryz.results139,go_sem,q0,q1,zby]) rfl ⟨by simp,?_⟩
   exact(hB3.setCell (p:=⟨w.heap.size+1,0,none⟩) (by simp) _).setCell (p:=⟨w.heap.size+1,1,none⟩) (by simp) _
 ·have p1f:inB r2 0 ((H:Int) - 1)=false:=by simpa using p1
  have eb:b=false:=by rw[<- hB.out];simp[inB] at p1;simp[inG];omega
  subst eb
  clear p1
  go_wp2_with (go_at_call 61;refine(zaI _ _ _ _).mono ?_;rintro e w' ⟨rfl,rfl⟩)
  refine bodyPost_ret (v:=zby (0,0,false)) (by simp[results,Tryz.results139,go_sem,q0,q1,zby]) rfl ⟨by simp,?_⟩
  exact(hB3.setCell (p:=⟨w.heap.size+1,0,none⟩) (by simp) _).setCell (p:=⟨w.heap.size+1,1,none⟩) (by simp) _
theorem zpS(W H:Nat)(a:Option Addr)(n cap:Nat)(w:World)(hW:1<=W/\W<=5)(hH:n / W=H)(hn:n<=25)(hH2:H<=25)(x r c r2 c2 m:Int)(hx:0<=x/\x<=24)(eq1:x / (W:Int)=r)(eq2:x % (W:Int)=c)(hr:0<=r/\r<=24)(hc:0<=c/\c<=4)(er:r+zbg 3=r2)(ec:c+zbx 3=c2)(hr2:-1<=r2/\r2<=25)(hc2:-1<=c2/\c2<=5)(em:r2 * (W:Int)=m)(hm:-5<=m/\m<=125)(b:Bool)(hb:inG r2 c2 W H=b) :
  Calls (SqG.prog aLt) 139 #[.agg #[.int .i64 (W:Int),.slice a n cap],.int .i64 x,.int .i64 3] w fun e w'=>e=.returned (zby (if b then (m+c2,3,true) else (0,0,false)))/\Below w.heap.size w w':=by
 have HH:Hid (n / W=H):=hH
 have hz:((W:Int) == 0)=false:=by simp;omega
 have hne0:¬ (W:Int)=0:=by omega
 have hneN:¬ W=0:=by omega
 have hzN:(W == 0)=false:=by simp;omega
 have e6:x.tdiv (W:Int)=r:=by rw[<- eq1];exact Int.tdiv_eq_ediv_of_nonneg (by omega)
 have e7:x.tmod (W:Int)=c:=by rw[<- eq2];exact Int.tmod_eq_emod_of_nonneg (by omega)
 have wr:IntKind.i64.wrap r=r:=IntWalk.i64_in _ (by omega)
 have wcc:IntKind.i64.wrap c=c:=IntWalk.i64_in _ (by omega)
 have er2:r+(0)=r2:=by rw[<- er];simp[zbg]
 have ec2:c+(-1)=c2:=by rw[<- ec];simp[zbx]
 have w2:IntKind.i64.wrap (r+(0))=r2:=by rw[er2];exact IntWalk.i64_in _ (by omega)
 have w3:IntKind.i64.wrap (c+(-1))=c2:=by rw[ec2];exact IntWalk.i64_in _ (by omega)
 have w1:IntKind.i64.wrap (r2 * (W:Int))=m:=by rw[em];exact IntWalk.i64_in _ (by omega)
 have hB:Hid (inG r2 c2 W H=b):=hb
 have hne:(1:Int)<=(W:Int):=by omega
 have x0:0<=x:=hx.1
 clear hH er ec em hb
 go_enter SqG.func139,Tryz.ntmps139
 go_wp2
 go_region
 obtain⟨u1,hu1⟩:∃ u1,u1=(((w.alloc (.cells #[.int .i64 (W:Int),.slice a n cap] 33)).alloc (.cells #[.int .i64 0,.int .i64 0] 144)).alloc (.cells #[.int .i64 (-1),.int .i64 0,.int .i64 1,.int .i64 0] 3)).drew:=⟨_,rfl⟩
 have hB1:Below w.heap.size w u1:=by rw[hu1];exact bel
 have hz1:u1.heap.size=w.heap.size+3:=by rw[hu1];simp[World.drew]
 have g0:u1.cell? ⟨w.heap.size,0,none⟩=some (.int .i64 (W:Int)):=by rw[hu1];simp[go_sem]
 have g1:u1.cell? ⟨w.heap.size,1,none⟩=some (.slice a n cap):=by rw[hu1];simp[go_sem]
 have q0:u1.cell? ⟨w.heap.size+1,0,none⟩=some (.int .i64 0):=by rw[hu1];simp[go_sem]
 have q1:u1.cell? ⟨w.heap.size+1,1,none⟩=some (.int .i64 0):=by rw[hu1];simp[go_sem]
 have f0:u1.frozen? ⟨w.heap.size+1,0,none⟩=false:=by rw[hu1];simp[go_sem]
 have f1:u1.frozen? ⟨w.heap.size+1,1,none⟩=false:=by rw[hu1];simp[go_sem]
 rw[<- hu1]
 clear hu1
 go_wp2
 go_region
 obtain⟨u2,hu2⟩:∃ u2,u2=(u1.alloc (.cells #[.int .i64 0,.int .i64 1,.int .i64 0,.int .i64 (-1)] 3)).drew:=⟨_,rfl⟩
 have hb2:Below u1.heap.size u1 u2:=by rw[hu2];exact bel
 rw[<- hu2]
 clear hu2
 replace f0:=zam hb2 q0 f0
 replace f1:=zam hb2 q1 f1
 replace g0:=zab hb2 g0;replace g1:=zab hb2 g1;replace q0:=zab hb2 q0;replace q1:=zab hb2 q1
 have hz2:=hb2.size
 have hB2:=zaj hB1 (by omega) hb2
 clear hb2 hB1
 go_wp2_with fail
 refine(zcv W H _ _ _ _ hW.1 (by omega) HH.out).mono ?_
 rintro e u3 ⟨rfl,hb3⟩
 replace f0:=zam hb3 q0 f0
 replace f1:=zam hb3 q1 f1
 replace g0:=zab hb3 g0;replace g1:=zab hb3 g1;replace q0:=zab hb3 q0;replace q1:=zab hb3 q1
 have hz3:=hb3.size
 have hB3:=zaj hB2 (by omega) hb3
 clear hb3 hB2
 by_cases p1:inB r2 0 ((H:Int) - 1)=true
 ·by_cases p2:inB c2 0 ((W:Int) - 1)=true
  ·have eb:b=true:=by rw[<- hB.out];simp[inB] at p1 p2;simp[inG];omega
   subst eb
   go_wp2_with (go_at_call 61;refine(zaI _ _ _ _).mono ?_;rintro e w' ⟨rfl,rfl⟩)
   refine bodyPost_ret (v:=zby (m+c2,3,true)) (by simp[results,Tryz.results139,go_sem,q0,q1,zby]) rfl ⟨by simp,?_⟩
   exact(hB3.setCell (p:=⟨w.heap.size+1,0,none⟩) (by simp) _).setCell (p:=⟨w.heap.size+1,1,none⟩) (by simp) _
  ·have p2f:inB c2 0 ((W:Int) - 1)=false:=by simpa using p2
   have eb:b=false:=by rw[<- hB.out];simp[inB] at p1 p2;simp[inG];omega
   subst eb
   clear p2
   go_wp2_with (go_at_call 61;refine(zaI _ _ _ _).mono ?_;rintro e w' ⟨rfl,rfl⟩)
   refine bodyPost_ret (v:=zby (0,0,false)) (by simp[results,Tryz.results139,go_sem,q0,q1,zby]) rfl ⟨by simp,?_⟩
   exact(hB3.setCell (p:=⟨w.heap.size+1,0,none⟩) (by simp) _).setCell (p:=⟨w.heap.size+1,1,none⟩) (by simp) _
 ·have p1f:inB r2 0 ((H:Int) - 1)=false:=by simpa using p1
  have eb:b=false:=by rw[<- hB.out];simp[inB] at p1;simp[inG];omega
  subst eb
  clear p1
  go_wp2_with (go_at_call 61;refine(zaI _ _ _ _).mono ?_;rintro e w' ⟨rfl,rfl⟩)
  refine bodyPost_ret (v:=zby (0,0,false)) (by simp[results,Tryz.results139,go_sem,q0,q1,zby]) rfl ⟨by simp,?_⟩
  exact(hB3.setCell (p:=⟨w.heap.size+1,0,none⟩) (by simp) _).setCell (p:=⟨w.heap.size+1,1,none⟩) (by simp) _
theorem zlM{wd:Int}{x d:Int}{W H:Nat}{r c r2 c2 m:Int}{b:Bool}(R:Ray wd cs x d W H r c r2 c2 m b)(a:Option Addr)(cap:Nat)(w:World) :
  Calls (SqG.prog aLt) 139 #[.agg #[.int .i64 wd,.slice a cs.length cap],.int .i64 x,.int .i64 d] w fun e w'=>e=.returned (zby (zbJ wd cs x d))/\Below w.heap.size w w':=by
 rw[R.hv]
 obtain rfl:=R.ew
 have h2:=R.hH2
 have hx:=R.hx
 have hn:=R.hn
 rcases (show d=0\/d=1\/d=2\/d=3 by have:=R.hd;omega) with rfl|rfl|rfl|rfl
 ·exact zpP W H a cs.length cap w R.hW R.hH R.hn (by omega) x r c r2 c2 m (by omega) R.eq1 R.eq2 (by have:=R.hr;omega) (by have:=R.hc;have:=R.hW;omega) R.er R.ec R.hr2 R.hc2 R.em R.hm b R.hb
 ·exact zpQ W H a cs.length cap w R.hW R.hH R.hn (by omega) x r c r2 c2 m (by omega) R.eq1 R.eq2 (by have:=R.hr;omega) (by have:=R.hc;have:=R.hW;omega) R.er R.ec R.hr2 R.hc2 R.em R.hm b R.hb
 ·exact zpR W H a cs.length cap w R.hW R.hH R.hn (by omega) x r c r2 c2 m (by omega) R.eq1 R.eq2 (by have:=R.hr;omega) (by have:=R.hc;have:=R.hW;omega) R.er R.ec R.hr2 R.hc2 R.em R.hm b R.hb
 ·exact zpS W H a cs.length cap w R.hW R.hH R.hn (by omega) x r c r2 c2 m (by omega) R.eq1 R.eq2 (by have:=R.hr;omega) (by have:=R.hc;have:=R.hW;omega) R.er R.ec R.hr2 R.hc2 R.em R.hm b R.hb
