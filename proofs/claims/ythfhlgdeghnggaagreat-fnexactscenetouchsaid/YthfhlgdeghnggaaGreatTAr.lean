/- Part. -/
import Derived.Test.YthfhlgdeghnggaaGreatTAn
set_option maxHeartbeats 2000000
set_option linter.unusedVariables false
namespace Go.Proofs.YthfhlgdeghnggaaGreat
variable{cs:List (Int × Int)}
namespace Sp
variable{aLt:Nat->Func->Func}
open Go.RowKit
theorem zs9(r c r2 c2:Int)(hr:0<=r/\r<=100)(hc:0<=c/\c<=100)(er:r+zbg 2=r2)(ec:c+zbx 2=c2)(w:World) :
  Calls (SqG.prog aLt) 159 #[.agg #[.int .i64 r,.int .i64 c]] w fun e w'=>e=.returned (.agg #[.int .i64 r2,.int .i64 c2])/\Below w.heap.size w w':=by
 rw[<- er,<- ec]
 exact zow r c hr hc w
theorem znE(W H:Nat)(a:Option Addr)(cap:Nat)(cs:List (Int × Int))(w:World)(h:zak w a cs)(hok:okG (W:Int) cs=true)(hW:1<=W/\W<=5)(hH:cs.length / W=H)(hn:cs.length<=25)(x r c r2 c2 m y:Int)(hx:0<=x/\x<cs.length)(eq1:x / (W:Int)=r)(eq2:x % (W:Int)=c)(hr:0<=r/\r<=24)(hc:0<=c/\c<=4)(er:r+zbg 2=r2)(ec:c+zbx 2=c2)(hr2:-1<=r2/\r2<=25)(hc2:-1<=c2/\c2<=5)(em:r2 * (W:Int)=m)(hm:-5<=m/\m<=125)(b:Bool)(hb:inG r2 c2 W H=b) :
  Calls (SqG.prog aLt) 132 #[.agg #[.int .i64 (W:Int),.slice a cs.length cap],.int .i64 x,.int .i64 2] w fun e w'=>e=.returned (zby (if b then (m+c2,2,true) else (0,0,false)))/\Below w.heap.size w w':=by
 have HH:Hid (cs.length / W=H):=hH
 have HR:Hid (r+zbg 2=r2):=er
 have HC:Hid (c+zbx 2=c2):=ec
 have HB:Hid (inG r2 c2 W H=b):=hb
 have hp:inP x cs.length=true:=by simp[inP];omega
 have hi:inB 2 0 3=true:=rfl
 have w1:IntKind.i64.wrap (r2 * (W:Int))=m:=by rw[em];exact IntWalk.i64_in _ (by omega)
 have hne:(1:Int)<=(W:Int):=by omega
 have x0:0<=x:=hx.1
 have x1:x<=24:=by omega
 clear hH er ec em hb
 have hz:((W:Int) == 0)=false:=by simp;omega
 have hne0:¬ (W:Int)=0:=by omega
 have hneN:¬ W=0:=by omega
 have hzN:(W == 0)=false:=by simp;omega
 have e6:x.tdiv (W:Int)=r:=by rw[<- eq1];exact Int.tdiv_eq_ediv_of_nonneg (by omega)
 have e7:x.tmod (W:Int)=c:=by rw[<- eq2];exact Int.tmod_eq_emod_of_nonneg (by omega)
 have wr:IntKind.i64.wrap r=r:=IntWalk.i64_in _ (by omega)
 have wcc:IntKind.i64.wrap c=c:=IntWalk.i64_in _ (by omega)
 have hix:∀ w:World,Sem.run (SqG.prog aLt) (Instr.index 220 (.agg #[.func (.func 157) #[] #[],.func (.func 158) #[] #[],.func (.func 159) #[] #[],.func (.func 160) #[] #[]]) (.int .i64 2)) w=.ok (.func (.func 159) #[] #[]) w:=fun w=>by simp[Instr.index,run_underlying SqG.underlying220,go_sem]
 go_enter SqG.func132,Tryz.ntmps132
 go_wp2_with fail
 refine(zaw _ _ _ cs _ (h.below bel) (by omega)).mono ?_
 rintro e u1 ⟨rfl,hb1⟩
 have g0:u1.cell? ⟨w.heap.size,0,none⟩=some (.int .i64 (W:Int)):=zab hb1 (by simp[go_sem])
 have g1:u1.cell? ⟨w.heap.size,1,none⟩=some (.slice a cs.length cap):=zab hb1 (by simp[go_sem])
 have q0:u1.cell? ⟨w.heap.size+1,0,none⟩=some (.int .i64 0):=zab hb1 (by simp[go_sem])
 have q1:u1.cell? ⟨w.heap.size+1,1,none⟩=some (.int .i64 0):=zab hb1 (by simp[go_sem])
 have f0:u1.frozen? ⟨w.heap.size+1,0,none⟩=false:=zam hb1 (v:=.int .i64 0) (by simp[go_sem]) (by simp[go_sem])
 have f1:u1.frozen? ⟨w.heap.size+1,1,none⟩=false:=zam hb1 (v:=.int .i64 0) (by simp[go_sem]) (by simp[go_sem])
 have hz1:w.heap.size+2<=u1.heap.size:=by have:=hb1.size;simp at this;omega
 have hB1:Below w.heap.size w u1:=zaj bel (by simp;omega) hb1
 clear hb1
 go_wp2_with fail
 refine(zb3 _ _ _ _ _ (by omega) _).mono ?_
 rintro e u2 ⟨rfl,hb2⟩
 replace f0:=zam hb2 q0 f0
 replace f1:=zam hb2 q1 f1
 replace g0:=zab hb2 g0;replace g1:=zab hb2 g1;replace q0:=zab hb2 q0;replace q1:=zab hb2 q1
 have hz2:=hb2.size
 have hB2:=zaj hB1 (by omega) hb2
 clear hb2 hB1
 go_wp2_with fail
 refine(zbp _ _).mono ?_
 rintro e u3 ⟨rfl,rfl⟩
 go_wp2_with fail
 refine(zep _).mono ?_
 rintro e u4 ⟨rfl,hb4⟩
 replace f0:=zam hb4 q0 f0
 replace f1:=zam hb4 q1 f1
 replace g0:=zab hb4 g0;replace g1:=zab hb4 g1;replace q0:=zab hb4 q0;replace q1:=zab hb4 q1
 have hz4:=hb4.size
 have hB4:=zaj hB2 (by omega) hb4
 clear hb4 hB2
 have hbU:Below u4.heap.size u4 (u4.alloc (.cells #[.int .i64 0,.int .i64 0] 223)):=bel
 have nv1:w.heap.size≠u4.heap.size:=by omega
 go_wp2
 go_cut [9] (fun s9 wc=>∃ blk:Nat,s9=.pointer (some ⟨blk,0,none⟩)/\zgF u4 wc blk r2 c2)
 case first =>
  go_region_held3 (fun w'=>w'.cell? ⟨w.heap.size,0,none⟩=some (.int .i64 (W:Int)))
   (first
    | with_reducible exact zab hb5 g0
    | with_reducible exact zab hbU g0
    | with_reducible exact zab hb5V g0
    | with_reducible exact zo6 nv1 (zo6 nv1 (zab hb5 g0))
    | go_keep)
   (first
    | (go_at_call 159;refine(zs9 r c r2 c2 (by omega) (by omega) HR.out HC.out _).mono ?_;rintro e wa ⟨rfl,hb5'⟩;have hb5:Below u4.heap.size u4 wa:=(by first|with_reducible exact hb5'|with_reducible exact zbZ hb5');have hb5V:Below u4.heap.size u4 (wa.alloc (.cells #[.int .i64 r2,.int .i64 c2] 223)):=zaj hb5 hb5.size ((Below.refl _ _).alloc (Nat.le_refl _) _))
    | (go_at_call 159;refine(zs9 r c r2 c2 (by omega) (by omega) HR.out HC.out _).mono ?_;rintro e wa ⟨rfl,hb5'⟩;have hb5:Below u4.heap.size u4 wa:=(by first|with_reducible exact zaj hbU hbU.size hb5'|with_reducible exact zaj hbU hbU.size (zbZ hb5'));have z0:wa.cell? ⟨u4.heap.size,0,none⟩=some (.int .i64 0):=zab hb5' (by simp[go_sem]);have z1:wa.cell? ⟨u4.heap.size,1,none⟩=some (.int .i64 0):=zab hb5' (by simp[go_sem]);have zf0:wa.frozen? ⟨u4.heap.size,0,none⟩=false:=zam hb5' (v:=.int .i64 0) (by simp[go_sem]) (by simp[go_sem]);have zf1:wa.frozen? ⟨u4.heap.size,1,none⟩=false:=zam hb5' (v:=.int .i64 0) (by simp[go_sem]) (by simp[go_sem])))
  ·have hbox:=zfk hb5 r2 c2
   go_wp2_with fail
   go_meet
   case rel=>exact⟨_,rfl,hbox⟩
  ·have hbox:=zfl hb5 (Nat.le_refl _) z0 z1 r2 c2
   go_wp2_with fail
   go_meet
   case rel=>exact⟨_,rfl,hbox⟩
 case rest =>
  obtain⟨blk,rfl,hblk,s0,s1,hb5⟩:=hcut
  replace f0:=zam hb5 q0 f0
  replace f1:=zam hb5 q1 f1
  replace g0:=zab hb5 g0;replace g1:=zab hb5 g1;replace q0:=zab hb5 q0;replace q1:=zab hb5 q1
  have hz5:=hb5.size
  have hB5:=zaj hB4 (by omega) hb5
  clear hb5 hB4 hbU nv1
  go_wp2_with fail
  refine(zfa r2 c2 W H _ _ _ _ hW.1 (by omega) HH.out (by omega) (by omega)).mono ?_
  rintro e u6 ⟨rfl,hb6⟩
  replace f0:=zam hb6 q0 f0
  replace f1:=zam hb6 q1 f1
  replace g0:=zab hb6 g0;replace g1:=zab hb6 g1;replace q0:=zab hb6 q0;replace q1:=zab hb6 q1;replace s0:=zab hb6 s0;replace s1:=zab hb6 s1
  have hz6:=hb6.size
  have hB6:=zaj hB5 (by omega) hb6
  clear hb6 hB5
  rw[HB.out]
  cases b
  ·go_wp2
   refine bodyPost_ret (v:=zby (0,0,false)) (by simp[results,Tryz.results132,go_sem,q0,q1,zby]) rfl ⟨by simp,?_⟩
   exact(hB6.setCell (p:=⟨w.heap.size+1,0,none⟩) (by simp) _).setCell (p:=⟨w.heap.size+1,1,none⟩) (by simp) _
  ·go_wp2
   refine bodyPost_ret (v:=zby (m+c2,2,true)) (by simp[results,Tryz.results132,go_sem,q0,q1,zby]) rfl ⟨by simp,?_⟩
   exact(hB6.setCell (p:=⟨w.heap.size+1,0,none⟩) (by simp) _).setCell (p:=⟨w.heap.size+1,1,none⟩) (by simp) _
theorem zta(r c r2 c2:Int)(hr:0<=r/\r<=100)(hc:0<=c/\c<=100)(er:r+zbg 3=r2)(ec:c+zbx 3=c2)(w:World) :
  Calls (SqG.prog aLt) 160 #[.agg #[.int .i64 r,.int .i64 c]] w fun e w'=>e=.returned (.agg #[.int .i64 r2,.int .i64 c2])/\Below w.heap.size w w':=by
 rw[<- er,<- ec]
 exact zox r c hr hc w
theorem znF(W H:Nat)(a:Option Addr)(cap:Nat)(cs:List (Int × Int))(w:World)(h:zak w a cs)(hok:okG (W:Int) cs=true)(hW:1<=W/\W<=5)(hH:cs.length / W=H)(hn:cs.length<=25)(x r c r2 c2 m y:Int)(hx:0<=x/\x<cs.length)(eq1:x / (W:Int)=r)(eq2:x % (W:Int)=c)(hr:0<=r/\r<=24)(hc:0<=c/\c<=4)(er:r+zbg 3=r2)(ec:c+zbx 3=c2)(hr2:-1<=r2/\r2<=25)(hc2:-1<=c2/\c2<=5)(em:r2 * (W:Int)=m)(hm:-5<=m/\m<=125)(b:Bool)(hb:inG r2 c2 W H=b) :
  Calls (SqG.prog aLt) 132 #[.agg #[.int .i64 (W:Int),.slice a cs.length cap],.int .i64 x,.int .i64 3] w fun e w'=>e=.returned (zby (if b then (m+c2,3,true) else (0,0,false)))/\Below w.heap.size w w':=by
 have HH:Hid (cs.length / W=H):=hH
 have HR:Hid (r+zbg 3=r2):=er
 have HC:Hid (c+zbx 3=c2):=ec
 have HB:Hid (inG r2 c2 W H=b):=hb
 have hp:inP x cs.length=true:=by simp[inP];omega
 have hi:inB 3 0 3=true:=rfl
 have w1:IntKind.i64.wrap (r2 * (W:Int))=m:=by rw[em];exact IntWalk.i64_in _ (by omega)
 have hne:(1:Int)<=(W:Int):=by omega
 have x0:0<=x:=hx.1
 have x1:x<=24:=by omega
 clear hH er ec em hb
 have hz:((W:Int) == 0)=false:=by simp;omega
 have hne0:¬ (W:Int)=0:=by omega
 have hneN:¬ W=0:=by omega
 have hzN:(W == 0)=false:=by simp;omega
 have e6:x.tdiv (W:Int)=r:=by rw[<- eq1];exact Int.tdiv_eq_ediv_of_nonneg (by omega)
 have e7:x.tmod (W:Int)=c:=by rw[<- eq2];exact Int.tmod_eq_emod_of_nonneg (by omega)
 have wr:IntKind.i64.wrap r=r:=IntWalk.i64_in _ (by omega)
 have wcc:IntKind.i64.wrap c=c:=IntWalk.i64_in _ (by omega)
 have hix:∀ w:World,Sem.run (SqG.prog aLt) (Instr.index 220 (.agg #[.func (.func 157) #[] #[],.func (.func 158) #[] #[],.func (.func 159) #[] #[],.func (.func 160) #[] #[]]) (.int .i64 3)) w=.ok (.func (.func 160) #[] #[]) w:=fun w=>by simp[Instr.index,run_underlying SqG.underlying220,go_sem]
 go_enter SqG.func132,Tryz.ntmps132
 go_wp2_with fail
 refine(zaw _ _ _ cs _ (h.below bel) (by omega)).mono ?_
 rintro e u1 ⟨rfl,hb1⟩
 have g0:u1.cell? ⟨w.heap.size,0,none⟩=some (.int .i64 (W:Int)):=zab hb1 (by simp[go_sem])
 have g1:u1.cell? ⟨w.heap.size,1,none⟩=some (.slice a cs.length cap):=zab hb1 (by simp[go_sem])
 have q0:u1.cell? ⟨w.heap.size+1,0,none⟩=some (.int .i64 0):=zab hb1 (by simp[go_sem])
 have q1:u1.cell? ⟨w.heap.size+1,1,none⟩=some (.int .i64 0):=zab hb1 (by simp[go_sem])
 have f0:u1.frozen? ⟨w.heap.size+1,0,none⟩=false:=zam hb1 (v:=.int .i64 0) (by simp[go_sem]) (by simp[go_sem])
 have f1:u1.frozen? ⟨w.heap.size+1,1,none⟩=false:=zam hb1 (v:=.int .i64 0) (by simp[go_sem]) (by simp[go_sem])
 have hz1:w.heap.size+2<=u1.heap.size:=by have:=hb1.size;simp at this;omega
 have hB1:Below w.heap.size w u1:=zaj bel (by simp;omega) hb1
 clear hb1
 go_wp2_with fail
 refine(zb3 _ _ _ _ _ (by omega) _).mono ?_
 rintro e u2 ⟨rfl,hb2⟩
 replace f0:=zam hb2 q0 f0
 replace f1:=zam hb2 q1 f1
 replace g0:=zab hb2 g0;replace g1:=zab hb2 g1;replace q0:=zab hb2 q0;replace q1:=zab hb2 q1
 have hz2:=hb2.size
 have hB2:=zaj hB1 (by omega) hb2
 clear hb2 hB1
 go_wp2_with fail
 refine(zbp _ _).mono ?_
 rintro e u3 ⟨rfl,rfl⟩
 go_wp2_with fail
 refine(zep _).mono ?_
 rintro e u4 ⟨rfl,hb4⟩
 replace f0:=zam hb4 q0 f0
 replace f1:=zam hb4 q1 f1
 replace g0:=zab hb4 g0;replace g1:=zab hb4 g1;replace q0:=zab hb4 q0;replace q1:=zab hb4 q1
 have hz4:=hb4.size
 have hB4:=zaj hB2 (by omega) hb4
 clear hb4 hB2
 have hbU:Below u4.heap.size u4 (u4.alloc (.cells #[.int .i64 0,.int .i64 0] 223)):=bel
 have nv1:w.heap.size≠u4.heap.size:=by omega
 go_wp2
 go_cut [9] (fun s9 wc=>∃ blk:Nat,s9=.pointer (some ⟨blk,0,none⟩)/\zgF u4 wc blk r2 c2)
 case first =>
  go_region_held3 (fun w'=>w'.cell? ⟨w.heap.size,0,none⟩=some (.int .i64 (W:Int)))
   (first
    | with_reducible exact zab hb5 g0
    | with_reducible exact zab hbU g0
    | with_reducible exact zab hb5V g0
    | with_reducible exact zo6 nv1 (zo6 nv1 (zab hb5 g0))
    | go_keep)
   (first
    | (go_at_call 160;refine(zta r c r2 c2 (by omega) (by omega) HR.out HC.out _).mono ?_;rintro e wa ⟨rfl,hb5'⟩;have hb5:Below u4.heap.size u4 wa:=(by first|with_reducible exact hb5'|with_reducible exact zbZ hb5');have hb5V:Below u4.heap.size u4 (wa.alloc (.cells #[.int .i64 r2,.int .i64 c2] 223)):=zaj hb5 hb5.size ((Below.refl _ _).alloc (Nat.le_refl _) _))
    | (go_at_call 160;refine(zta r c r2 c2 (by omega) (by omega) HR.out HC.out _).mono ?_;rintro e wa ⟨rfl,hb5'⟩;have hb5:Below u4.heap.size u4 wa:=(by first|with_reducible exact zaj hbU hbU.size hb5'|with_reducible exact zaj hbU hbU.size (zbZ hb5'));have z0:wa.cell? ⟨u4.heap.size,0,none⟩=some (.int .i64 0):=zab hb5' (by simp[go_sem]);have z1:wa.cell? ⟨u4.heap.size,1,none⟩=some (.int .i64 0):=zab hb5' (by simp[go_sem]);have zf0:wa.frozen? ⟨u4.heap.size,0,none⟩=false:=zam hb5' (v:=.int .i64 0) (by simp[go_sem]) (by simp[go_sem]);have zf1:wa.frozen? ⟨u4.heap.size,1,none⟩=false:=zam hb5' (v:=.int .i64 0) (by simp[go_sem]) (by simp[go_sem])))
  ·have hbox:=zfk hb5 r2 c2
   go_wp2_with fail
   go_meet
   case rel=>exact⟨_,rfl,hbox⟩
  ·have hbox:=zfl hb5 (Nat.le_refl _) z0 z1 r2 c2
   go_wp2_with fail
   go_meet
   case rel=>exact⟨_,rfl,hbox⟩
 case rest =>
  obtain⟨blk,rfl,hblk,s0,s1,hb5⟩:=hcut
  replace f0:=zam hb5 q0 f0
  replace f1:=zam hb5 q1 f1
  replace g0:=zab hb5 g0;replace g1:=zab hb5 g1;replace q0:=zab hb5 q0;replace q1:=zab hb5 q1
  have hz5:=hb5.size
  have hB5:=zaj hB4 (by omega) hb5
  clear hb5 hB4 hbU nv1
  go_wp2_with fail
  refine(zfa r2 c2 W H _ _ _ _ hW.1 (by omega) HH.out (by omega) (by omega)).mono ?_
  rintro e u6 ⟨rfl,hb6⟩
  replace f0:=zam hb6 q0 f0
  replace f1:=zam hb6 q1 f1
  replace g0:=zab hb6 g0;replace g1:=zab hb6 g1;replace q0:=zab hb6 q0;replace q1:=zab hb6 q1;replace s0:=zab hb6 s0;replace s1:=zab hb6 s1
  have hz6:=hb6.size
  have hB6:=zaj hB5 (by omega) hb6
  clear hb6 hB5
  rw[HB.out]
  cases b
  ·go_wp2
   refine bodyPost_ret (v:=zby (0,0,false)) (by simp[results,Tryz.results132,go_sem,q0,q1,zby]) rfl ⟨by simp,?_⟩
   exact(hB6.setCell (p:=⟨w.heap.size+1,0,none⟩) (by simp) _).setCell (p:=⟨w.heap.size+1,1,none⟩) (by simp) _
  ·go_wp2
   refine bodyPost_ret (v:=zby (m+c2,3,true)) (by simp[results,Tryz.results132,go_sem,q0,q1,zby]) rfl ⟨by simp,?_⟩
   exact(hB6.setCell (p:=⟨w.heap.size+1,0,none⟩) (by simp) _).setCell (p:=⟨w.heap.size+1,1,none⟩) (by simp) _
def zs0(wd:Int)(cs:List (Int × Int))(x d:Int):Prop:=okG wd cs=false\/(okG wd cs=true/\inP x cs.length=false)\/(okG wd cs=true/\inP x cs.length=true/\inB d 0 3=false)
theorem zjL(wd:Int)(a:Option Addr)(cap:Nat)(cs:List (Int × Int))(w:World)(h:zak w a cs)(hm:cs.length<=1048576)(x d:Int)(hbad:zs0 wd cs x d) :
  Calls (SqG.prog aLt) 132 #[.agg #[.int .i64 wd,.slice a cs.length cap],.int .i64 x,.int .i64 d] w fun e w'=>e=.returned (zby (0,0,false))/\Below w.heap.size w w':=by
 go_enter SqG.func132,Tryz.ntmps132
 go_wp2_with fail
 refine(zaw _ _ _ cs _ (h.below bel) (by omega)).mono ?_
 rintro e u1 ⟨rfl,hb1⟩
 have g0:u1.cell? ⟨w.heap.size,0,none⟩=some (.int .i64 wd):=zab hb1 (by simp[go_sem])
 have g1:u1.cell? ⟨w.heap.size,1,none⟩=some (.slice a cs.length cap):=zab hb1 (by simp[go_sem])
 have q0:u1.cell? ⟨w.heap.size+1,0,none⟩=some (.int .i64 0):=zab hb1 (by simp[go_sem])
 have q1:u1.cell? ⟨w.heap.size+1,1,none⟩=some (.int .i64 0):=zab hb1 (by simp[go_sem])
 have f0:u1.frozen? ⟨w.heap.size+1,0,none⟩=false:=zam hb1 (v:=.int .i64 0) (by simp[go_sem]) (by simp[go_sem])
 have f1:u1.frozen? ⟨w.heap.size+1,1,none⟩=false:=zam hb1 (v:=.int .i64 0) (by simp[go_sem]) (by simp[go_sem])
 have hz1:w.heap.size+2<=u1.heap.size:=by have:=hb1.size;simp at this;omega
 have hB1:Below w.heap.size w u1:=zaj bel (by simp;omega) hb1
 clear hb1
 rcases hbad with k1|⟨k1,k2⟩|⟨k1,k2,k3⟩
 ·go_wp2
  refine bodyPost_ret (v:=zby (0,0,false)) (by simp[results,Tryz.results132,go_sem,q0,q1,zby]) rfl ⟨by simp,?_⟩
  exact(hB1.setCell (p:=⟨w.heap.size+1,0,none⟩) (by simp) _).setCell (p:=⟨w.heap.size+1,1,none⟩) (by simp) _
 all_goals
  go_wp2_with fail
  refine(zb3 _ _ _ _ _ (by omega) _).mono ?_
  rintro e u2 ⟨rfl,hb2⟩
  replace f0:=zam hb2 q0 f0
  replace f1:=zam hb2 q1 f1
  replace g0:=zab hb2 g0;replace g1:=zab hb2 g1;replace q0:=zab hb2 q0;replace q1:=zab hb2 q1
  have hz2:=hb2.size
  have hB2:=zaj hB1 (by omega) hb2
  clear hb2 hB1
  go_wp2_with (go_at_call 147;refine(zbp _ _).mono ?_;rintro e w' ⟨rfl,rfl⟩)
  refine bodyPost_ret (v:=zby (0,0,false)) (by simp[results,Tryz.results132,go_sem,q0,q1,zby]) rfl ⟨by simp,?_⟩
  exact(hB2.setCell (p:=⟨w.heap.size+1,0,none⟩) (by simp) _).setCell (p:=⟨w.heap.size+1,1,none⟩) (by simp) _
theorem zqb{wd:Int}{x d:Int}(h:zs0 wd cs x d):zbJ wd cs x d=(0,0,false):=by
 unfold zbJ
 rw[if_neg]
 rintro⟨h1,h2,h3,_⟩
 rcases h with k1|⟨k1,k2⟩|⟨k1,k2,k3⟩
 ·rw[h1] at k1;cases k1
 ·simp[inP] at k2;omega
 ·simp[inB] at k3;omega
structure Ray(wd:Int)(cs:List (Int × Int))(x d:Int)(W H:Nat)(r c r2 c2 m:Int)(b:Bool):Prop where
 ew:wd=(W:Int)
 ok:okG wd cs=true
 hW:1<=W/\W<=5
 hH:cs.length / W=H
 hn:cs.length<=25
 hH2:1<=H/\H<=5
 el:cs.length=W * H
 hx:0<=x/\x<cs.length
 hd:0<=d/\d<=3
 eq1:x / (W:Int)=r
 eq2:x % (W:Int)=c
 hr:0<=r/\r<H
 hc:0<=c/\c<W
 er:r+zbg d=r2
 ec:c+zbx d=c2
 hr2:-1<=r2/\r2<=25
 hc2:-1<=c2/\c2<=5
 em:r2 * (W:Int)=m
 hm:-5<=m/\m<=125
 hb:inG r2 c2 W H=b
 hv:zbJ wd cs x d=if b then (m+c2,d,true) else (0,0,false)
theorem zq6(wd:Int)(cs:List (Int × Int))(x d:Int)(hok:okG wd cs=true)(hx:0<=x/\x<cs.length)(hd:0<=d/\d<=3):∃ W H r c r2 c2 m b,Ray wd cs x d W H r c r2 c2 m b:=by
 obtain⟨W,H,ew,h1,h2,h3,h4,el,hH,hHI,hn⟩:=zrd hok
 have hW0:(0:Int)<(W:Int):=by omega
 have c0:=Int.emod_nonneg x (show (W:Int)≠0 by omega)
 have c1:=Int.emod_lt_of_pos x hW0
 have r0:0<=x / (W:Int):=Int.ediv_nonneg hx.1 (by omega)
 have r1:x / (W:Int)<(H:Int):=by
  refine Int.ediv_lt_of_lt_mul hW0 ?_
  have:(cs.length:Int)=(W:Int) * (H:Int):=by exact_mod_cast el
  rw[Int.mul_comm]
  omega
 have dr:-1<=zbg d/\zbg d<=1:=by unfold zbg;split <;> (try split) <;> omega
 have dc:-1<=zbx d/\zbx d<=1:=by unfold zbx;split <;> (try split) <;> omega
 refine⟨W,H,x / (W:Int),x % (W:Int),_,_,_,_,ew,hok,⟨h1,h2⟩,hH,hn,⟨h3,h4⟩,el,hx,hd,rfl,rfl,⟨r0,r1⟩,⟨c0,c1⟩,rfl,rfl,by omega,by omega,rfl,?_,rfl,?_⟩
 ·have m1:(-1:Int) * 5<=(x / (W:Int)+zbg d) * (W:Int):=by
   rcases Int.lt_or_le (x / (W:Int)+zbg d) 0 with k|k
   ·rw[show x / (W:Int)+zbg d=-1 by omega];omega
   ·exact Int.le_trans (by omega) (Int.mul_nonneg k (by omega))
  have m2:(x / (W:Int)+zbg d) * (W:Int)<=125:=by
   rcases Int.lt_or_le (x / (W:Int)+zbg d) 0 with k|k
   ·rw[show x / (W:Int)+zbg d=-1 by omega];omega
   ·exact Int.le_trans (Int.mul_le_mul (show x / (W:Int)+zbg d<=25 by omega) (show (W:Int)<=5 by omega) (by omega) (by omega)) (by omega)
  omega
 ·unfold zbJ
  subst ew
  rw[hHI]
  by_cases k:inG (x / (W:Int)+zbg d) (x % (W:Int)+zbx d) W H=true
  ·rw[if_pos ⟨hok,hx,hd,k⟩,if_pos k]
  ·rw[if_neg (fun q=>k q.2.2.2),if_neg k]
theorem zrA(wd:Int)(cs:List (Int × Int))(x d:Int):zs0 wd cs x d\/(okG wd cs=true/\(0<=x/\x<(cs.length:Int))/\(0<=d/\d<=3)):=by
 by_cases k1:okG wd cs=true
 ·by_cases k2:0<=x/\x<(cs.length:Int)
  ·by_cases k3:0<=d/\d<=3
   ·exact Or.inr ⟨k1,k2,k3⟩
   ·exact Or.inl (Or.inr (Or.inr ⟨k1,decide_eq_true k2,decide_eq_false k3⟩))
  ·exact Or.inl (Or.inr (Or.inl ⟨k1,decide_eq_false k2⟩))
 ·exact Or.inl (Or.inl (by simpa using k1))
theorem zfM(wd:Int)(a:Option Addr)(cap:Nat)(cs:List (Int × Int))(w:World)(h:zak w a cs)(hm:cs.length<=1048576)(x d:Int) :
  Calls (SqG.prog aLt) 132 #[.agg #[.int .i64 wd,.slice a cs.length cap],.int .i64 x,.int .i64 d] w fun e w'=>e=.returned (zby (zbJ wd cs x d))/\Below w.heap.size w w':=by
 rcases zrA wd cs x d with hb|⟨k1,k2,k3⟩
 ·rw[zqb hb]
  exact zjL wd a cap cs w h hm x d hb
 ·obtain⟨W,H,r,c,r2,c2,m,b,R⟩:=zq6 wd cs x d k1 k2 k3
  rw[R.hv]
  obtain rfl:=R.ew
  rcases (show d=0\/d=1\/d=2\/d=3 by omega) with rfl|rfl|rfl|rfl
  ·exact znC W H a cap cs w h R.ok R.hW R.hH R.hn x r c r2 c2 m 0 R.hx R.eq1 R.eq2 (by have:=R.hr;have:=R.hH2;omega) (by have:=R.hc;have:=R.hW;omega) R.er R.ec R.hr2 R.hc2 R.em R.hm b R.hb
  ·exact znD W H a cap cs w h R.ok R.hW R.hH R.hn x r c r2 c2 m 0 R.hx R.eq1 R.eq2 (by have:=R.hr;have:=R.hH2;omega) (by have:=R.hc;have:=R.hW;omega) R.er R.ec R.hr2 R.hc2 R.em R.hm b R.hb
  ·exact znE W H a cap cs w h R.ok R.hW R.hH R.hn x r c r2 c2 m 0 R.hx R.eq1 R.eq2 (by have:=R.hr;have:=R.hH2;omega) (by have:=R.hc;have:=R.hW;omega) R.er R.ec R.hr2 R.hc2 R.em R.hm b R.hb
  ·exact znF W H a cap cs w h R.ok R.hW R.hH R.hn x r c r2 c2 m 0 R.hx R.eq1 R.eq2 (by have:=R.hr;have:=R.hH2;omega) (by have:=R.hc;have:=R.hW;omega) R.er R.ec R.hr2 R.hc2 R.em R.hm b R.hb
