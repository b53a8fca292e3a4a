/- Of the proof: NJd -/
import Derived.Test.YtdhopelplokehaaGreatDAr
import Derived.Test.YtdhopelplokehaaGreatDAz
set_option maxHeartbeats 2000000
set_option linter.unusedVariables false
namespace Go.Proofs.YtdhopelplokehaaGreat
namespace Sp.Sn
open Go.RowKit
theorem mv_2 (r c r2 c2:Int) (hr:0<=r/\r<=100) (hc:0<=c/\c<=100) (er:r + dRow 2=r2) (ec:c + dCol 2=c2) (w:World) :
  Calls SqN.prog 140 #[.agg #[.int .i64 r,.int .i64 c]] w fun e w'=>e=.returned (.agg #[.int .i64 r2,.int .i64 c2])/\Below w.heap.size w w':=by
 rw [<- er,<- ec]
 exact spot_down r c hr hc w
theorem implRay_2 (W H:Nat) (a:Option Addr) (cap:Nat) (cs:List (Int × Int)) (w:World) (h:CellsAt w a cs) (hok:okG (W:Int) cs=true) (hW:1<=W/\W<=5) (hH:cs.length / W=H) (hn:cs.length<=25) (x r c r2 c2 m y:Int)
  (hx:0<=x/\x < cs.length) (eq1:x / (W:Int)=r) (eq2:x % (W:Int)=c) (hr:0<=r/\r<=24) (hc:0<=c/\c<=4) (er:r + dRow 2=r2) (ec:c + dCol 2=c2) (hr2:-1<=r2/\r2<=25) (hc2:-1<=c2/\c2<=5) (em:r2 * (W:Int)=m) (hm:-5<=m/\m<=125) (b:Bool) (hb:inG r2 c2 W H=b) :
  Calls SqN.prog 108 #[.agg #[.int .i64 (W:Int),.slice a cs.length cap],.int .i64 x,.int .i64 2] w fun e w'=>e=.returned (rayV (if b then (m + c2,2,true) else (0,0,false)))/\Below w.heap.size w w':=by
 have HH:Hid (cs.length / W=H):=hH
 have HR:Hid (r + dRow 2=r2):=er
 have HC:Hid (c + dCol 2=c2):=ec
 have HB:Hid (inG r2 c2 W H=b):=hb
 have hp:inP x cs.length=true:=by simp [inP]; omega
 have hi:inB 2 0 3=true:=rfl
 have w1:IntKind.i64.wrap (r2 * (W:Int))=m:=by rw [em]; exact IntWalk.i64_in _ (by omega)
 have hne:(1:Int)<=(W:Int):=by omega
 have x0:0<=x:=hx.1
 have x1:x<=24:=by omega
 clear hH er ec em hb
 have hz:((W:Int) == 0)=false:=by simp; omega
 have hne0:¬ (W:Int)=0:=by omega
 have hneN:¬ W=0:=by omega
 have hzN:(W == 0)=false:=by simp; omega
 have e6:x.tdiv (W:Int)=r:=by rw [<- eq1]; exact Int.tdiv_eq_ediv_of_nonneg (by omega)
 have e7:x.tmod (W:Int)=c:=by rw [<- eq2]; exact Int.tmod_eq_emod_of_nonneg (by omega)
 have wr:IntKind.i64.wrap r=r:=IntWalk.i64_in _ (by omega)
 have wcc:IntKind.i64.wrap c=c:=IntWalk.i64_in _ (by omega)
 have hix:∀ w:World,Sem.run SqN.prog (Instr.index 184 (.agg #[.func (.func 138) #[] #[],.func (.func 139) #[] #[],.func (.func 140) #[] #[],.func (.func 141) #[] #[]]) (.int .i64 2)) w=.ok (.func (.func 140) #[] #[]) w:=fun w=>by simp [Instr.index,run_underlying SqN.underlying184,go_sem]
 go_enter SqN.func108,Tryz.ntmps108
 go_wp2_with fail
 refine (implGridOk_any _ _ _ cs _ (h.below bel) (by omega)).mono ?_
 rintro e u1 ⟨rfl,hb1⟩
 have g0:u1.cell? ⟨w.heap.size,0,none⟩=some (.int .i64 (W:Int)):=keepc hb1 (by simp [go_sem])
 have g1:u1.cell? ⟨w.heap.size,1,none⟩=some (.slice a cs.length cap):=keepc hb1 (by simp [go_sem])
 have q0:u1.cell? ⟨w.heap.size + 1,0,none⟩=some (.int .i64 0):=keepc hb1 (by simp [go_sem])
 have q1:u1.cell? ⟨w.heap.size + 1,1,none⟩=some (.int .i64 0):=keepc hb1 (by simp [go_sem])
 have f0:u1.frozen? ⟨w.heap.size + 1,0,none⟩=false:=keepf hb1 (v:=.int .i64 0) (by simp [go_sem]) (by simp [go_sem])
 have f1:u1.frozen? ⟨w.heap.size + 1,1,none⟩=false:=keepf hb1 (v:=.int .i64 0) (by simp [go_sem]) (by simp [go_sem])
 have hz1:w.heap.size + 2<=u1.heap.size:=by have:=hb1.size; simp at this; omega
 have hB1:Below w.heap.size w u1:=bcall bel (by simp; omega) hb1
 clear hb1
 go_wp2_with fail
 refine (placeOk_any _ _ _ _ _ (by omega) _).mono ?_
 rintro e u2 ⟨rfl,hb2⟩
 replace f0:=keepf hb2 q0 f0
 replace f1:=keepf hb2 q1 f1
 replace g0:=keepc hb2 g0; replace g1:=keepc hb2 g1; replace q0:=keepc hb2 q0; replace q1:=keepc hb2 q1
 have hz2:=hb2.size
 have hB2:=bcall hB1 (by omega) hb2
 clear hb2 hB1
 go_wp2_with fail
 refine (dirOk_any _ _).mono ?_
 rintro e u3 ⟨rfl,rfl⟩
 go_wp2_with fail
 refine (steps_any _).mono ?_
 rintro e u4 ⟨rfl,hb4⟩
 replace f0:=keepf hb4 q0 f0
 replace f1:=keepf hb4 q1 f1
 replace g0:=keepc hb4 g0; replace g1:=keepc hb4 g1; replace q0:=keepc hb4 q0; replace q1:=keepc hb4 q1
 have hz4:=hb4.size
 have hB4:=bcall hB2 (by omega) hb4
 clear hb4 hB2
 have hbU:Below u4.heap.size u4 (u4.alloc (.cells #[.int .i64 0,.int .i64 0] 187)):=bel
 have nv1:w.heap.size ≠ u4.heap.size:=by omega
 go_wp2
 go_cut [9] (fun s9 wc=>∃ blk:Nat,s9=.pointer (some ⟨blk,0,none⟩)/\SpotAt u4 wc blk r2 c2)
 case first =>
  go_region_held3 (fun w'=>w'.cell? ⟨w.heap.size,0,none⟩=some (.int .i64 (W:Int)))
   (first
    | with_reducible exact keepc hb5 g0
    | with_reducible exact keepc hbU g0
    | with_reducible exact keepc hb5V g0
    | with_reducible exact setc nv1 (setc nv1 (keepc hb5 g0))
    | go_keep)
   (first
    | (go_at_call 140; refine (mv_2 r c r2 c2 (by omega) (by omega) HR.out HC.out _).mono ?_; rintro e wa ⟨rfl,hb5'⟩; have hb5:Below u4.heap.size u4 wa:=(by first | with_reducible exact hb5' | with_reducible exact bdrew hb5'); have hb5V:Below u4.heap.size u4 (wa.alloc (.cells #[.int .i64 r2,.int .i64 c2] 187)):=bcall hb5 hb5.size ((Below.refl _ _).alloc (Nat.le_refl _) _))
    | (go_at_call 140; refine (mv_2 r c r2 c2 (by omega) (by omega) HR.out HC.out _).mono ?_; rintro e wa ⟨rfl,hb5'⟩; have hb5:Below u4.heap.size u4 wa:=(by first | with_reducible exact bcall hbU hbU.size hb5' | with_reducible exact bcall hbU hbU.size (bdrew hb5')); have z0:wa.cell? ⟨u4.heap.size,0,none⟩=some (.int .i64 0):=keepc hb5' (by simp [go_sem]); have z1:wa.cell? ⟨u4.heap.size,1,none⟩=some (.int .i64 0):=keepc hb5' (by simp [go_sem]); have zf0:wa.frozen? ⟨u4.heap.size,0,none⟩=false:=keepf hb5' (v:=.int .i64 0) (by simp [go_sem]) (by simp [go_sem]); have zf1:wa.frozen? ⟨u4.heap.size,1,none⟩=false:=keepf hb5' (v:=.int .i64 0) (by simp [go_sem]) (by simp [go_sem])))
  ·have hbox:=spot_new hb5 r2 c2
   go_wp2_with fail
   go_meet
   case rel=>exact ⟨_,rfl,hbox⟩
  ·have hbox:=spot_set hb5 (Nat.le_refl _) z0 z1 r2 c2
   go_wp2_with fail
   go_meet
   case rel=>exact ⟨_,rfl,hbox⟩
 case rest =>
  obtain ⟨blk,rfl,hblk,s0,s1,hb5⟩:=hcut
  replace f0:=keepf hb5 q0 f0
  replace f1:=keepf hb5 q1 f1
  replace g0:=keepc hb5 g0; replace g1:=keepc hb5 g1; replace q0:=keepc hb5 q0; replace q1:=keepc hb5 q1
  have hz5:=hb5.size
  have hB5:=bcall hB4 (by omega) hb5
  clear hb5 hB4 hbU nv1
  go_wp2_with fail
  refine (isIn_any r2 c2 W H _ _ _ _ hW.1 (by omega) HH.out (by omega) (by omega)).mono ?_
  rintro e u6 ⟨rfl,hb6⟩
  replace f0:=keepf hb6 q0 f0
  replace f1:=keepf hb6 q1 f1
  replace g0:=keepc hb6 g0; replace g1:=keepc hb6 g1; replace q0:=keepc hb6 q0; replace q1:=keepc hb6 q1; replace s0:=keepc hb6 s0; replace s1:=keepc hb6 s1
  have hz6:=hb6.size
  have hB6:=bcall hB5 (by omega) hb6
  clear hb6 hB5
  rw [HB.out]
  cases b
  ·go_wp2
   refine bodyPost_ret (v:=rayV (0,0,false)) (by simp [results,Tryz.results108,go_sem,q0,q1,rayV]) rfl ⟨by simp,?_⟩
   exact (hB6.setCell (p:=⟨w.heap.size + 1,0,none⟩) (by simp) _).setCell (p:=⟨w.heap.size + 1,1,none⟩) (by simp) _
  ·go_wp2
   refine bodyPost_ret (v:=rayV (m + c2,2,true)) (by simp [results,Tryz.results108,go_sem,q0,q1,rayV]) rfl ⟨by simp,?_⟩
   exact (hB6.setCell (p:=⟨w.heap.size + 1,0,none⟩) (by simp) _).setCell (p:=⟨w.heap.size + 1,1,none⟩) (by simp) _
end Sp.Sn
namespace Sp.Sn
open Go.RowKit
theorem mv_3 (r c r2 c2:Int) (hr:0<=r/\r<=100) (hc:0<=c/\c<=100) (er:r + dRow 3=r2) (ec:c + dCol 3=c2) (w:World) :
  Calls SqN.prog 141 #[.agg #[.int .i64 r,.int .i64 c]] w fun e w'=>e=.returned (.agg #[.int .i64 r2,.int .i64 c2])/\Below w.heap.size w w':=by
 rw [<- er,<- ec]
 exact spot_left r c hr hc w
theorem implRay_3 (W H:Nat) (a:Option Addr) (cap:Nat) (cs:List (Int × Int)) (w:World) (h:CellsAt w a cs) (hok:okG (W:Int) cs=true) (hW:1<=W/\W<=5) (hH:cs.length / W=H) (hn:cs.length<=25) (x r c r2 c2 m y:Int)
  (hx:0<=x/\x < cs.length) (eq1:x / (W:Int)=r) (eq2:x % (W:Int)=c) (hr:0<=r/\r<=24) (hc:0<=c/\c<=4) (er:r + dRow 3=r2) (ec:c + dCol 3=c2) (hr2:-1<=r2/\r2<=25) (hc2:-1<=c2/\c2<=5) (em:r2 * (W:Int)=m) (hm:-5<=m/\m<=125) (b:Bool) (hb:inG r2 c2 W H=b) :
  Calls SqN.prog 108 #[.agg #[.int .i64 (W:Int),.slice a cs.length cap],.int .i64 x,.int .i64 3] w fun e w'=>e=.returned (rayV (if b then (m + c2,3,true) else (0,0,false)))/\Below w.heap.size w w':=by
 have HH:Hid (cs.length / W=H):=hH
 have HR:Hid (r + dRow 3=r2):=er
 have HC:Hid (c + dCol 3=c2):=ec
 have HB:Hid (inG r2 c2 W H=b):=hb
 have hp:inP x cs.length=true:=by simp [inP]; omega
 have hi:inB 3 0 3=true:=rfl
 have w1:IntKind.i64.wrap (r2 * (W:Int))=m:=by rw [em]; exact IntWalk.i64_in _ (by omega)
 have hne:(1:Int)<=(W:Int):=by omega
 have x0:0<=x:=hx.1
 have x1:x<=24:=by omega
 clear hH er ec em hb
 have hz:((W:Int) == 0)=false:=by simp; omega
 have hne0:¬ (W:Int)=0:=by omega
 have hneN:¬ W=0:=by omega
 have hzN:(W == 0)=false:=by simp; omega
 have e6:x.tdiv (W:Int)=r:=by rw [<- eq1]; exact Int.tdiv_eq_ediv_of_nonneg (by omega)
 have e7:x.tmod (W:Int)=c:=by rw [<- eq2]; exact Int.tmod_eq_emod_of_nonneg (by omega)
 have wr:IntKind.i64.wrap r=r:=IntWalk.i64_in _ (by omega)
 have wcc:IntKind.i64.wrap c=c:=IntWalk.i64_in _ (by omega)
 have hix:∀ w:World,Sem.run SqN.prog (Instr.index 184 (.agg #[.func (.func 138) #[] #[],.func (.func 139) #[] #[],.func (.func 140) #[] #[],.func (.func 141) #[] #[]]) (.int .i64 3)) w=.ok (.func (.func 141) #[] #[]) w:=fun w=>by simp [Instr.index,run_underlying SqN.underlying184,go_sem]
 go_enter SqN.func108,Tryz.ntmps108
 go_wp2_with fail
 refine (implGridOk_any _ _ _ cs _ (h.below bel) (by omega)).mono ?_
 rintro e u1 ⟨rfl,hb1⟩
 have g0:u1.cell? ⟨w.heap.size,0,none⟩=some (.int .i64 (W:Int)):=keepc hb1 (by simp [go_sem])
 have g1:u1.cell? ⟨w.heap.size,1,none⟩=some (.slice a cs.length cap):=keepc hb1 (by simp [go_sem])
 have q0:u1.cell? ⟨w.heap.size + 1,0,none⟩=some (.int .i64 0):=keepc hb1 (by simp [go_sem])
 have q1:u1.cell? ⟨w.heap.size + 1,1,none⟩=some (.int .i64 0):=keepc hb1 (by simp [go_sem])
 have f0:u1.frozen? ⟨w.heap.size + 1,0,none⟩=false:=keepf hb1 (v:=.int .i64 0) (by simp [go_sem]) (by simp [go_sem])
 have f1:u1.frozen? ⟨w.heap.size + 1,1,none⟩=false:=keepf hb1 (v:=.int .i64 0) (by simp [go_sem]) (by simp [go_sem])
 have hz1:w.heap.size + 2<=u1.heap.size:=by have:=hb1.size; simp at this; omega
 have hB1:Below w.heap.size w u1:=bcall bel (by simp; omega) hb1
 clear hb1
 go_wp2_with fail
 refine (placeOk_any _ _ _ _ _ (by omega) _).mono ?_
 rintro e u2 ⟨rfl,hb2⟩
 replace f0:=keepf hb2 q0 f0
 replace f1:=keepf hb2 q1 f1
 replace g0:=keepc hb2 g0; replace g1:=keepc hb2 g1; replace q0:=keepc hb2 q0; replace q1:=keepc hb2 q1
 have hz2:=hb2.size
 have hB2:=bcall hB1 (by omega) hb2
 clear hb2 hB1
 go_wp2_with fail
 refine (dirOk_any _ _).mono ?_
 rintro e u3 ⟨rfl,rfl⟩
 go_wp2_with fail
 refine (steps_any _).mono ?_
 rintro e u4 ⟨rfl,hb4⟩
 replace f0:=keepf hb4 q0 f0
 replace f1:=keepf hb4 q1 f1
 replace g0:=keepc hb4 g0; replace g1:=keepc hb4 g1; replace q0:=keepc hb4 q0; replace q1:=keepc hb4 q1
 have hz4:=hb4.size
 have hB4:=bcall hB2 (by omega) hb4
 clear hb4 hB2
 have hbU:Below u4.heap.size u4 (u4.alloc (.cells #[.int .i64 0,.int .i64 0] 187)):=bel
 have nv1:w.heap.size ≠ u4.heap.size:=by omega
 go_wp2
 go_cut [9] (fun s9 wc=>∃ blk:Nat,s9=.pointer (some ⟨blk,0,none⟩)/\SpotAt u4 wc blk r2 c2)
 case first =>
  go_region_held3 (fun w'=>w'.cell? ⟨w.heap.size,0,none⟩=some (.int .i64 (W:Int)))
   (first
    | with_reducible exact keepc hb5 g0
    | with_reducible exact keepc hbU g0
    | with_reducible exact keepc hb5V g0
    | with_reducible exact setc nv1 (setc nv1 (keepc hb5 g0))
    | go_keep)
   (first
    | (go_at_call 141; refine (mv_3 r c r2 c2 (by omega) (by omega) HR.out HC.out _).mono ?_; rintro e wa ⟨rfl,hb5'⟩; have hb5:Below u4.heap.size u4 wa:=(by first | with_reducible exact hb5' | with_reducible exact bdrew hb5'); have hb5V:Below u4.heap.size u4 (wa.alloc (.cells #[.int .i64 r2,.int .i64 c2] 187)):=bcall hb5 hb5.size ((Below.refl _ _).alloc (Nat.le_refl _) _))
    | (go_at_call 141; refine (mv_3 r c r2 c2 (by omega) (by omega) HR.out HC.out _).mono ?_; rintro e wa ⟨rfl,hb5'⟩; have hb5:Below u4.heap.size u4 wa:=(by first | with_reducible exact bcall hbU hbU.size hb5' | with_reducible exact bcall hbU hbU.size (bdrew hb5')); have z0:wa.cell? ⟨u4.heap.size,0,none⟩=some (.int .i64 0):=keepc hb5' (by simp [go_sem]); have z1:wa.cell? ⟨u4.heap.size,1,none⟩=some (.int .i64 0):=keepc hb5' (by simp [go_sem]); have zf0:wa.frozen? ⟨u4.heap.size,0,none⟩=false:=keepf hb5' (v:=.int .i64 0) (by simp [go_sem]) (by simp [go_sem]); have zf1:wa.frozen? ⟨u4.heap.size,1,none⟩=false:=keepf hb5' (v:=.int .i64 0) (by simp [go_sem]) (by simp [go_sem])))
  ·have hbox:=spot_new hb5 r2 c2
   go_wp2_with fail
   go_meet
   case rel=>exact ⟨_,rfl,hbox⟩
  ·have hbox:=spot_set hb5 (Nat.le_refl _) z0 z1 r2 c2
   go_wp2_with fail
   go_meet
   case rel=>exact ⟨_,rfl,hbox⟩
 case rest =>
  obtain ⟨blk,rfl,hblk,s0,s1,hb5⟩:=hcut
  replace f0:=keepf hb5 q0 f0
  replace f1:=keepf hb5 q1 f1
  replace g0:=keepc hb5 g0; replace g1:=keepc hb5 g1; replace q0:=keepc hb5 q0; replace q1:=keepc hb5 q1
  have hz5:=hb5.size
  have hB5:=bcall hB4 (by omega) hb5
  clear hb5 hB4 hbU nv1
  go_wp2_with fail
  refine (isIn_any r2 c2 W H _ _ _ _ hW.1 (by omega) HH.out (by omega) (by omega)).mono ?_
  rintro e u6 ⟨rfl,hb6⟩
  replace f0:=keepf hb6 q0 f0
  replace f1:=keepf hb6 q1 f1
  replace g0:=keepc hb6 g0; replace g1:=keepc hb6 g1; replace q0:=keepc hb6 q0; replace q1:=keepc hb6 q1; replace s0:=keepc hb6 s0; replace s1:=keepc hb6 s1
  have hz6:=hb6.size
  have hB6:=bcall hB5 (by omega) hb6
  clear hb6 hB5
  rw [HB.out]
  cases b
  ·go_wp2
   refine bodyPost_ret (v:=rayV (0,0,false)) (by simp [results,Tryz.results108,go_sem,q0,q1,rayV]) rfl ⟨by simp,?_⟩
   exact (hB6.setCell (p:=⟨w.heap.size + 1,0,none⟩) (by simp) _).setCell (p:=⟨w.heap.size + 1,1,none⟩) (by simp) _
  ·go_wp2
   refine bodyPost_ret (v:=rayV (m + c2,3,true)) (by simp [results,Tryz.results108,go_sem,q0,q1,rayV]) rfl ⟨by simp,?_⟩
   exact (hB6.setCell (p:=⟨w.heap.size + 1,0,none⟩) (by simp) _).setCell (p:=⟨w.heap.size + 1,1,none⟩) (by simp) _
end Sp.Sn
namespace Sp.Sn
open Go.RowKit
theorem implRay_bad (wd:Int) (a:Option Addr) (cap:Nat) (cs:List (Int × Int)) (w:World) (h:CellsAt w a cs) (hm:cs.length<=1048576) (x d:Int) (hbad:badN wd cs x d) :
  Calls SqN.prog 108 #[.agg #[.int .i64 wd,.slice a cs.length cap],.int .i64 x,.int .i64 d] w fun e w'=>e=.returned (rayV (0,0,false))/\Below w.heap.size w w':=by
 go_enter SqN.func108,Tryz.ntmps108
 go_wp2_with fail
 refine (implGridOk_any _ _ _ cs _ (h.below bel) (by omega)).mono ?_
 rintro e u1 ⟨rfl,hb1⟩
 have g0:u1.cell? ⟨w.heap.size,0,none⟩=some (.int .i64 wd):=keepc hb1 (by simp [go_sem])
 have g1:u1.cell? ⟨w.heap.size,1,none⟩=some (.slice a cs.length cap):=keepc hb1 (by simp [go_sem])
 have q0:u1.cell? ⟨w.heap.size + 1,0,none⟩=some (.int .i64 0):=keepc hb1 (by simp [go_sem])
 have q1:u1.cell? ⟨w.heap.size + 1,1,none⟩=some (.int .i64 0):=keepc hb1 (by simp [go_sem])
 have f0:u1.frozen? ⟨w.heap.size + 1,0,none⟩=false:=keepf hb1 (v:=.int .i64 0) (by simp [go_sem]) (by simp [go_sem])
 have f1:u1.frozen? ⟨w.heap.size + 1,1,none⟩=false:=keepf hb1 (v:=.int .i64 0) (by simp [go_sem]) (by simp [go_sem])
 have hz1:w.heap.size + 2<=u1.heap.size:=by have:=hb1.size; simp at this; omega
 have hB1:Below w.heap.size w u1:=bcall bel (by simp; omega) hb1
 clear hb1
 rcases hbad with k1 | ⟨k1,k2⟩ | ⟨k1,k2,k3⟩
 ·go_wp2
  refine bodyPost_ret (v:=rayV (0,0,false)) (by simp [results,Tryz.results108,go_sem,q0,q1,rayV]) rfl ⟨by simp,?_⟩
  exact (hB1.setCell (p:=⟨w.heap.size + 1,0,none⟩) (by simp) _).setCell (p:=⟨w.heap.size + 1,1,none⟩) (by simp) _
 all_goals
  go_wp2_with fail
  refine (placeOk_any _ _ _ _ _ (by omega) _).mono ?_
  rintro e u2 ⟨rfl,hb2⟩
  replace f0:=keepf hb2 q0 f0
  replace f1:=keepf hb2 q1 f1
  replace g0:=keepc hb2 g0; replace g1:=keepc hb2 g1; replace q0:=keepc hb2 q0; replace q1:=keepc hb2 q1
  have hz2:=hb2.size
  have hB2:=bcall hB1 (by omega) hb2
  clear hb2 hB1
  go_wp2_with (go_at_call 126; refine (dirOk_any _ _).mono ?_; rintro e w' ⟨rfl,rfl⟩)
  refine bodyPost_ret (v:=rayV (0,0,false)) (by simp [results,Tryz.results108,go_sem,q0,q1,rayV]) rfl ⟨by simp,?_⟩
  exact (hB2.setCell (p:=⟨w.heap.size + 1,0,none⟩) (by simp) _).setCell (p:=⟨w.heap.size + 1,1,none⟩) (by simp) _
theorem implRayNext_any (wd:Int) (a:Option Addr) (cap:Nat) (cs:List (Int × Int)) (w:World) (h:CellsAt w a cs) (hm:cs.length<=1048576) (x d:Int) :
  Calls SqN.prog 108 #[.agg #[.int .i64 wd,.slice a cs.length cap],.int .i64 x,.int .i64 d] w fun e w'=>e=.returned (rayV (rayN wd cs x d))/\Below w.heap.size w w':=by
 rcases good_or wd cs x d with hb | ⟨k1,k2,k3⟩
 ·rw [rayN_bad hb]
  exact implRay_bad wd a cap cs w h hm x d hb
 ·obtain ⟨W,H,r,c,r2,c2,m,b,R⟩:=ray_of wd cs x d k1 k2 k3
  rw [R.hv]
  obtain rfl:=R.ew
  rcases (show d=0\/d=1\/d=2\/d=3 by omega) with rfl | rfl | rfl | rfl
  ·exact implRay_0 W H a cap cs w h R.ok R.hW R.hH R.hn x r c r2 c2 m 0 R.hx R.eq1 R.eq2 (by have:=R.hr; have:=R.hH2; omega) (by have:=R.hc; have:=R.hW; omega) R.er R.ec R.hr2 R.hc2 R.em R.hm b R.hb
  ·exact implRay_1 W H a cap cs w h R.ok R.hW R.hH R.hn x r c r2 c2 m 0 R.hx R.eq1 R.eq2 (by have:=R.hr; have:=R.hH2; omega) (by have:=R.hc; have:=R.hW; omega) R.er R.ec R.hr2 R.hc2 R.em R.hm b R.hb
  ·exact implRay_2 W H a cap cs w h R.ok R.hW R.hH R.hn x r c r2 c2 m 0 R.hx R.eq1 R.eq2 (by have:=R.hr; have:=R.hH2; omega) (by have:=R.hc; have:=R.hW; omega) R.er R.ec R.hr2 R.hc2 R.em R.hm b R.hb
  ·exact implRay_3 W H a cap cs w h R.ok R.hW R.hH R.hn x r c r2 c2 m 0 R.hx R.eq1 R.eq2 (by have:=R.hr; have:=R.hH2; omega) (by have:=R.hc; have:=R.hW; omega) R.er R.ec R.hr2 R.hc2 R.em R.hm b R.hb
end Sp.Sn
end Go.Proofs.YtdhopelplokehaaGreat
