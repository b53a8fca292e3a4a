/- Of the proof: NJb, NJc -/
import Derived.Test.YtdhopelplokehaaGreatDAn
import Derived.Test.YtdhopelplokehaaGreatDAy
set_option maxHeartbeats 8000000
set_option linter.unusedVariables false
namespace Go.Proofs.YtdhopelplokehaaGreat
namespace Sp.Sn
open Go.RowKit
theorem spot_up (r c:Int) (hr:0<=r/\r<=100) (hc:0<=c/\c<=100) (w:World) :
  Calls SqN.prog 138 #[.agg #[.int .i64 r,.int .i64 c]] w fun e w'=>e=.returned (.agg #[.int .i64 (r + dRow 0),.int .i64 (c + dCol 0)])/\Below w.heap.size w w':=by
 obtain ⟨r2,er⟩:∃ r2,r + dRow 0=r2:=⟨_,rfl⟩
 obtain ⟨c2,ec⟩:∃ c2,c + dCol 0=c2:=⟨_,rfl⟩
 rw [er,ec]
 simp [dRow] at er
 simp [dCol] at ec
 subst er ec
 go_enter SqN.func138,Tryz.ntmps138
 go_wp2
 refine bodyPost_ret (v:=.agg #[.int .i64 (r + -1),.int .i64 c]) (by simp [results,Tryz.results138,go_sem,Int.sub_eq_add_neg]) rfl ⟨rfl,?_⟩
 exact bel
theorem spot_right (r c:Int) (hr:0<=r/\r<=100) (hc:0<=c/\c<=100) (w:World) :
  Calls SqN.prog 139 #[.agg #[.int .i64 r,.int .i64 c]] w fun e w'=>e=.returned (.agg #[.int .i64 (r + dRow 1),.int .i64 (c + dCol 1)])/\Below w.heap.size w w':=by
 obtain ⟨r2,er⟩:∃ r2,r + dRow 1=r2:=⟨_,rfl⟩
 obtain ⟨c2,ec⟩:∃ c2,c + dCol 1=c2:=⟨_,rfl⟩
 rw [er,ec]
 simp [dRow] at er
 simp [dCol] at ec
 subst er ec
 go_enter SqN.func139,Tryz.ntmps139
 go_wp2
 refine bodyPost_ret (v:=.agg #[.int .i64 r,.int .i64 (c + 1)]) (by simp [results,Tryz.results139,go_sem]) rfl ⟨rfl,?_⟩
 exact bel
theorem spot_down (r c:Int) (hr:0<=r/\r<=100) (hc:0<=c/\c<=100) (w:World) :
  Calls SqN.prog 140 #[.agg #[.int .i64 r,.int .i64 c]] w fun e w'=>e=.returned (.agg #[.int .i64 (r + dRow 2),.int .i64 (c + dCol 2)])/\Below w.heap.size w w':=by
 obtain ⟨r2,er⟩:∃ r2,r + dRow 2=r2:=⟨_,rfl⟩
 obtain ⟨c2,ec⟩:∃ c2,c + dCol 2=c2:=⟨_,rfl⟩
 rw [er,ec]
 simp [dRow] at er
 simp [dCol] at ec
 subst er ec
 go_enter SqN.func140,Tryz.ntmps140
 go_wp2
 refine bodyPost_ret (v:=.agg #[.int .i64 (r + 1),.int .i64 c]) (by simp [results,Tryz.results140,go_sem]) rfl ⟨rfl,?_⟩
 exact bel
theorem spot_left (r c:Int) (hr:0<=r/\r<=100) (hc:0<=c/\c<=100) (w:World) :
  Calls SqN.prog 141 #[.agg #[.int .i64 r,.int .i64 c]] w fun e w'=>e=.returned (.agg #[.int .i64 (r + dRow 3),.int .i64 (c + dCol 3)])/\Below w.heap.size w w':=by
 obtain ⟨r2,er⟩:∃ r2,r + dRow 3=r2:=⟨_,rfl⟩
 obtain ⟨c2,ec⟩:∃ c2,c + dCol 3=c2:=⟨_,rfl⟩
 rw [er,ec]
 simp [dRow] at er
 simp [dCol] at ec
 subst er ec
 go_enter SqN.func141,Tryz.ntmps141
 go_wp2
 refine bodyPost_ret (v:=.agg #[.int .i64 r,.int .i64 (c + -1)]) (by simp [results,Tryz.results141,go_sem,Int.sub_eq_add_neg]) rfl ⟨rfl,?_⟩
 exact bel
theorem steps_any (w:World) :
  Calls SqN.prog 129 #[] w fun e w'=>e=.returned (.agg #[.func (.func 138) #[] #[],.func (.func 139) #[] #[],.func (.func 140) #[] #[],.func (.func 141) #[] #[]])/\Below w.heap.size w w':=by
 go_enter SqN.func129,Tryz.ntmps129
 go_wp2
 refine bodyPost_ret (v:=.agg #[.func (.func 138) #[] #[],.func (.func 139) #[] #[],.func (.func 140) #[] #[],.func (.func 141) #[] #[]]) (by simp [results,Tryz.results129,go_sem]) rfl ⟨rfl,?_⟩
 exact bel
theorem isIn_any (r c:Int) (W H:Nat) (a:Option Addr) (n cap:Nat) (w:World) (hW:1<=W) (hn:n<=1048576) (hH:n / W=H) (hr:-1<=r/\r<=101) (hc:-1<=c/\c<=101) :
  Calls SqN.prog 130 #[.agg #[.int .i64 r,.int .i64 c],.agg #[.int .i64 (W:Int),.slice a n cap]] w fun e w'=>e=.returned (.bool (inG r c W H))/\Below w.heap.size w w':=by
 have HH:Hid (n / W=H):=hH
 clear hH
 by_cases g0:r < 0
 ·have hv:inG r c W H=false:=by simp [inG]; omega
  have f1:decide (0<=r)=false:=by simp; omega
  rw [hv]
  clear hv g0
  go_enter SqN.func130,Tryz.ntmps130
  go_wp2
  go_quiet (fail)
  go_wp2
  go_ret
  exact ⟨rfl,(fun h=>⟨h.os,h.tape,h.output,h.size,h.block⟩:Below w.heap.size w ((w.alloc (.cells #[.int .i64 r,.int .i64 c] 187)).alloc (.cells #[.int .i64 (W:Int),.slice a n cap] 25))->_) bel⟩
 ·skip
  by_cases g1:(H:Int)<=r
  ·have hv:inG r c W H=false:=by simp [inG]; omega
   have f1:decide (0<=r)=true:=by simp; omega
   have f2:decide (r < (H:Int))=false:=by simp; omega
   rw [hv]
   clear hv g0 g1
   obtain ⟨w0,hw0⟩:∃ w0,w0=(w.alloc (.cells #[.int .i64 r,.int .i64 c] 187)).alloc (.cells #[.int .i64 (W:Int),.slice a n cap] 25):=⟨_,rfl⟩
   have hb0:Below w.heap.size w w0:=by rw [hw0]; exact bel
   have s0:w0.cell? ⟨w.heap.size,0,none⟩=some (.int .i64 r):=by rw [hw0]; simp [go_sem]
   have s1:w0.cell? ⟨w.heap.size,1,none⟩=some (.int .i64 c):=by rw [hw0]; simp [go_sem]
   have g0:w0.cell? ⟨w.heap.size + 1,0,none⟩=some (.int .i64 (W:Int)):=by rw [hw0]; simp [go_sem]
   have g1:w0.cell? ⟨w.heap.size + 1,1,none⟩=some (.slice a n cap):=by rw [hw0]; simp [go_sem]
   go_enter SqN.func130,Tryz.ntmps130
   go_wp2
   rw [<- hw0]
   clear hw0
   first
    | (go_region_with
      (first
       | (go_at_call 45; refine (rowsI_any W H _ _ _ _ hW hn HH.out).mono ?_; rintro e w6 ⟨rfl,hb6'⟩; have hb6:Below w0.heap.size w0 w6:=(by first | with_reducible exact hb6' | with_reducible exact bdrew hb6'); have s06:=keepc hb6 s0; have s16:=keepc hb6 s1; have g06:=keepc hb6 g0; have g16:=keepc hb6 g1)))
    | fail
   all_goals
    have hBf:=bcall hb0 hb0.size hb6
    go_wp2
    go_ret
    exact ⟨rfl,by first | exact hBf | exact hBf.drew⟩
  ·skip
   by_cases g2:c < 0
   ·have hv:inG r c W H=false:=by simp [inG]; omega
    have f1:decide (0<=r)=true:=by simp; omega
    have f2:decide (r < (H:Int))=true:=by simp; omega
    have f3:decide (0<=c)=false:=by simp; omega
    rw [hv]
    clear hv g0 g1 g2
    obtain ⟨w0,hw0⟩:∃ w0,w0=(w.alloc (.cells #[.int .i64 r,.int .i64 c] 187)).alloc (.cells #[.int .i64 (W:Int),.slice a n cap] 25):=⟨_,rfl⟩
    have hb0:Below w.heap.size w w0:=by rw [hw0]; exact bel
    have s0:w0.cell? ⟨w.heap.size,0,none⟩=some (.int .i64 r):=by rw [hw0]; simp [go_sem]
    have s1:w0.cell? ⟨w.heap.size,1,none⟩=some (.int .i64 c):=by rw [hw0]; simp [go_sem]
    have g0:w0.cell? ⟨w.heap.size + 1,0,none⟩=some (.int .i64 (W:Int)):=by rw [hw0]; simp [go_sem]
    have g1:w0.cell? ⟨w.heap.size + 1,1,none⟩=some (.slice a n cap):=by rw [hw0]; simp [go_sem]
    go_enter SqN.func130,Tryz.ntmps130
    go_wp2
    rw [<- hw0]
    clear hw0
    first
     | (go_region_with
       (first
        | (go_at_call 45; refine (rowsI_any W H _ _ _ _ hW hn HH.out).mono ?_; rintro e w6 ⟨rfl,hb6'⟩; have hb6:Below w0.heap.size w0 w6:=(by first | with_reducible exact hb6' | with_reducible exact bdrew hb6'); have s06:=keepc hb6 s0; have s16:=keepc hb6 s1; have g06:=keepc hb6 g0; have g16:=keepc hb6 g1)))
     | fail
    all_goals
     have hBf:=bcall hb0 hb0.size hb6
     go_wp2
     go_ret
     exact ⟨rfl,by first | exact hBf | exact hBf.drew⟩
   ·skip
    by_cases g3:(W:Int)<=c
    ·have hv:inG r c W H=false:=by simp [inG]; omega
     have f1:decide (0<=r)=true:=by simp; omega
     have f2:decide (r < (H:Int))=true:=by simp; omega
     have f3:decide (0<=c)=true:=by simp; omega
     have f4:decide (c < (W:Int))=false:=by simp; omega
     rw [hv]
     clear hv g0 g1 g2 g3
     obtain ⟨w0,hw0⟩:∃ w0,w0=(w.alloc (.cells #[.int .i64 r,.int .i64 c] 187)).alloc (.cells #[.int .i64 (W:Int),.slice a n cap] 25):=⟨_,rfl⟩
     have hb0:Below w.heap.size w w0:=by rw [hw0]; exact bel
     have s0:w0.cell? ⟨w.heap.size,0,none⟩=some (.int .i64 r):=by rw [hw0]; simp [go_sem]
     have s1:w0.cell? ⟨w.heap.size,1,none⟩=some (.int .i64 c):=by rw [hw0]; simp [go_sem]
     have g0:w0.cell? ⟨w.heap.size + 1,0,none⟩=some (.int .i64 (W:Int)):=by rw [hw0]; simp [go_sem]
     have g1:w0.cell? ⟨w.heap.size + 1,1,none⟩=some (.slice a n cap):=by rw [hw0]; simp [go_sem]
     go_enter SqN.func130,Tryz.ntmps130
     go_wp2
     rw [<- hw0]
     clear hw0
     go_region_held3 (fun w'=>w'.cell? ⟨w.heap.size,0,none⟩=some (.int .i64 r)/\w'.cell? ⟨w.heap.size,1,none⟩=some (.int .i64 c)/\w'.cell? ⟨w.heap.size + 1,0,none⟩=some (.int .i64 (W:Int))/\w'.cell? ⟨w.heap.size + 1,1,none⟩=some (.slice a n cap))
      (first
       | with_reducible exact ⟨keepc hb6 s0,keepc hb6 s1,keepc hb6 g0,keepc hb6 g1⟩
       | go_keep)
      (first
       | (go_at_call 45; refine (rowsI_any W H _ _ _ _ hW hn HH.out).mono ?_; rintro e w6 ⟨rfl,hb6'⟩; have hb6:Below w0.heap.size w0 w6:=(by first | with_reducible exact hb6' | with_reducible exact bdrew hb6')))
     have hBf:=bcall hb0 hb0.size hb6
     go_wp2
     go_ret
     exact ⟨rfl,hBf⟩
    ·skip
     have hv:inG r c W H=true:=by simp [inG]; omega
     have f1:decide (0<=r)=true:=by simp; omega
     have f2:decide (r < (H:Int))=true:=by simp; omega
     have f3:decide (0<=c)=true:=by simp; omega
     have f4:decide (c < (W:Int))=true:=by simp; omega
     rw [hv]
     clear hv g0 g1 g2 g3
     obtain ⟨w0,hw0⟩:∃ w0,w0=(w.alloc (.cells #[.int .i64 r,.int .i64 c] 187)).alloc (.cells #[.int .i64 (W:Int),.slice a n cap] 25):=⟨_,rfl⟩
     have hb0:Below w.heap.size w w0:=by rw [hw0]; exact bel
     have s0:w0.cell? ⟨w.heap.size,0,none⟩=some (.int .i64 r):=by rw [hw0]; simp [go_sem]
     have s1:w0.cell? ⟨w.heap.size,1,none⟩=some (.int .i64 c):=by rw [hw0]; simp [go_sem]
     have g0:w0.cell? ⟨w.heap.size + 1,0,none⟩=some (.int .i64 (W:Int)):=by rw [hw0]; simp [go_sem]
     have g1:w0.cell? ⟨w.heap.size + 1,1,none⟩=some (.slice a n cap):=by rw [hw0]; simp [go_sem]
     go_enter SqN.func130,Tryz.ntmps130
     go_wp2
     rw [<- hw0]
     clear hw0
     go_region_held3 (fun w'=>w'.cell? ⟨w.heap.size,0,none⟩=some (.int .i64 r)/\w'.cell? ⟨w.heap.size,1,none⟩=some (.int .i64 c)/\w'.cell? ⟨w.heap.size + 1,0,none⟩=some (.int .i64 (W:Int))/\w'.cell? ⟨w.heap.size + 1,1,none⟩=some (.slice a n cap))
      (first
       | with_reducible exact ⟨keepc hb6 s0,keepc hb6 s1,keepc hb6 g0,keepc hb6 g1⟩
       | go_keep)
      (first
       | (go_at_call 45; refine (rowsI_any W H _ _ _ _ hW hn HH.out).mono ?_; rintro e w6 ⟨rfl,hb6'⟩; have hb6:Below w0.heap.size w0 w6:=(by first | with_reducible exact hb6' | with_reducible exact bdrew hb6')))
     have hBf:=bcall hb0 hb0.size hb6
     go_wp2
     go_ret
     exact ⟨rfl,hBf⟩
end Sp.Sn
namespace Sp.Sn
open Go.RowKit
end Sp.Sn
namespace Sp.Sn
open Go.RowKit
end Sp.Sn
namespace Sp.Sn
open Go.RowKit
theorem mv_0 (r c r2 c2:Int) (hr:0<=r/\r<=100) (hc:0<=c/\c<=100) (er:r + dRow 0=r2) (ec:c + dCol 0=c2) (w:World) :
  Calls SqN.prog 138 #[.agg #[.int .i64 r,.int .i64 c]] w fun e w'=>e=.returned (.agg #[.int .i64 r2,.int .i64 c2])/\Below w.heap.size w w':=by
 rw [<- er,<- ec]
 exact spot_up r c hr hc w
theorem implRay_0 (W H:Nat) (a:Option Addr) (cap:Nat) (cs:List (Int × Int)) (w:World) (h:CellsAt w a cs) (hok:okG (W:Int) cs=true) (hW:1<=W/\W<=5) (hH:cs.length / W=H) (hn:cs.length<=25) (x r c r2 c2 m y:Int)
  (hx:0<=x/\x < cs.length) (eq1:x / (W:Int)=r) (eq2:x % (W:Int)=c) (hr:0<=r/\r<=24) (hc:0<=c/\c<=4) (er:r + dRow 0=r2) (ec:c + dCol 0=c2) (hr2:-1<=r2/\r2<=25) (hc2:-1<=c2/\c2<=5) (em:r2 * (W:Int)=m) (hm:-5<=m/\m<=125) (b:Bool) (hb:inG r2 c2 W H=b) :
  Calls SqN.prog 108 #[.agg #[.int .i64 (W:Int),.slice a cs.length cap],.int .i64 x,.int .i64 0] w fun e w'=>e=.returned (rayV (if b then (m + c2,0,true) else (0,0,false)))/\Below w.heap.size w w':=by
 have HH:Hid (cs.length / W=H):=hH
 have HR:Hid (r + dRow 0=r2):=er
 have HC:Hid (c + dCol 0=c2):=ec
 have HB:Hid (inG r2 c2 W H=b):=hb
 have hp:inP x cs.length=true:=by simp [inP]; omega
 have hi:inB 0 0 3=true:=rfl
 have w1:IntKind.i64.wrap (r2 * (W:Int))=m:=by rw [em]; exact IntWalk.i64_in _ (by omega)
 have hne:(1:Int)<=(W:Int):=by omega
 have x0:0<=x:=hx.1
 have x1:x<=24:=by omega
 clear hH er ec em hb
 have hz:((W:Int) == 0)=false:=by simp; omega
 have hne0:¬ (W:Int)=0:=by omega
 have hneN:¬ W=0:=by omega
 have hzN:(W == 0)=false:=by simp; omega
 have e6:x.tdiv (W:Int)=r:=by rw [<- eq1]; exact Int.tdiv_eq_ediv_of_nonneg (by omega)
 have e7:x.tmod (W:Int)=c:=by rw [<- eq2]; exact Int.tmod_eq_emod_of_nonneg (by omega)
 have wr:IntKind.i64.wrap r=r:=IntWalk.i64_in _ (by omega)
 have wcc:IntKind.i64.wrap c=c:=IntWalk.i64_in _ (by omega)
 have hix:∀ w:World,Sem.run SqN.prog (Instr.index 184 (.agg #[.func (.func 138) #[] #[],.func (.func 139) #[] #[],.func (.func 140) #[] #[],.func (.func 141) #[] #[]]) (.int .i64 0)) w=.ok (.func (.func 138) #[] #[]) w:=fun w=>by simp [Instr.index,run_underlying SqN.underlying184,go_sem]
 go_enter SqN.func108,Tryz.ntmps108
 go_wp2_with fail
 refine (implGridOk_any _ _ _ cs _ (h.below bel) (by omega)).mono ?_
 rintro e u1 ⟨rfl,hb1⟩
 have g0:u1.cell? ⟨w.heap.size,0,none⟩=some (.int .i64 (W:Int)):=keepc hb1 (by simp [go_sem])
 have g1:u1.cell? ⟨w.heap.size,1,none⟩=some (.slice a cs.length cap):=keepc hb1 (by simp [go_sem])
 have q0:u1.cell? ⟨w.heap.size + 1,0,none⟩=some (.int .i64 0):=keepc hb1 (by simp [go_sem])
 have q1:u1.cell? ⟨w.heap.size + 1,1,none⟩=some (.int .i64 0):=keepc hb1 (by simp [go_sem])
 have f0:u1.frozen? ⟨w.heap.size + 1,0,none⟩=false:=keepf hb1 (v:=.int .i64 0) (by simp [go_sem]) (by simp [go_sem])
 have f1:u1.frozen? ⟨w.heap.size + 1,1,none⟩=false:=keepf hb1 (v:=.int .i64 0) (by simp [go_sem]) (by simp [go_sem])
 have hz1:w.heap.size + 2<=u1.heap.size:=by have:=hb1.size; simp at this; omega
 have hB1:Below w.heap.size w u1:=bcall bel (by simp; omega) hb1
 clear hb1
 go_wp2_with fail
 refine (placeOk_any _ _ _ _ _ (by omega) _).mono ?_
 rintro e u2 ⟨rfl,hb2⟩
 replace f0:=keepf hb2 q0 f0
 replace f1:=keepf hb2 q1 f1
 replace g0:=keepc hb2 g0; replace g1:=keepc hb2 g1; replace q0:=keepc hb2 q0; replace q1:=keepc hb2 q1
 have hz2:=hb2.size
 have hB2:=bcall hB1 (by omega) hb2
 clear hb2 hB1
 go_wp2_with fail
 refine (dirOk_any _ _).mono ?_
 rintro e u3 ⟨rfl,rfl⟩
 go_wp2_with fail
 refine (steps_any _).mono ?_
 rintro e u4 ⟨rfl,hb4⟩
 replace f0:=keepf hb4 q0 f0
 replace f1:=keepf hb4 q1 f1
 replace g0:=keepc hb4 g0; replace g1:=keepc hb4 g1; replace q0:=keepc hb4 q0; replace q1:=keepc hb4 q1
 have hz4:=hb4.size
 have hB4:=bcall hB2 (by omega) hb4
 clear hb4 hB2
 have hbU:Below u4.heap.size u4 (u4.alloc (.cells #[.int .i64 0,.int .i64 0] 187)):=bel
 have nv1:w.heap.size ≠ u4.heap.size:=by omega
 go_wp2
 go_cut [9] (fun s9 wc=>∃ blk:Nat,s9=.pointer (some ⟨blk,0,none⟩)/\SpotAt u4 wc blk r2 c2)
 case first =>
  go_region_held3 (fun w'=>w'.cell? ⟨w.heap.size,0,none⟩=some (.int .i64 (W:Int)))
   (first
    | with_reducible exact keepc hb5 g0
    | with_reducible exact keepc hbU g0
    | with_reducible exact keepc hb5V g0
    | with_reducible exact setc nv1 (setc nv1 (keepc hb5 g0))
    | go_keep)
   (first
    | (go_at_call 138; refine (mv_0 r c r2 c2 (by omega) (by omega) HR.out HC.out _).mono ?_; rintro e wa ⟨rfl,hb5'⟩; have hb5:Below u4.heap.size u4 wa:=(by first | with_reducible exact hb5' | with_reducible exact bdrew hb5'); have hb5V:Below u4.heap.size u4 (wa.alloc (.cells #[.int .i64 r2,.int .i64 c2] 187)):=bcall hb5 hb5.size ((Below.refl _ _).alloc (Nat.le_refl _) _))
    | (go_at_call 138; refine (mv_0 r c r2 c2 (by omega) (by omega) HR.out HC.out _).mono ?_; rintro e wa ⟨rfl,hb5'⟩; have hb5:Below u4.heap.size u4 wa:=(by first | with_reducible exact bcall hbU hbU.size hb5' | with_reducible exact bcall hbU hbU.size (bdrew hb5')); have z0:wa.cell? ⟨u4.heap.size,0,none⟩=some (.int .i64 0):=keepc hb5' (by simp [go_sem]); have z1:wa.cell? ⟨u4.heap.size,1,none⟩=some (.int .i64 0):=keepc hb5' (by simp [go_sem]); have zf0:wa.frozen? ⟨u4.heap.size,0,none⟩=false:=keepf hb5' (v:=.int .i64 0) (by simp [go_sem]) (by simp [go_sem]); have zf1:wa.frozen? ⟨u4.heap.size,1,none⟩=false:=keepf hb5' (v:=.int .i64 0) (by simp [go_sem]) (by simp [go_sem])))
  ·have hbox:=spot_new hb5 r2 c2
   go_wp2_with fail
   go_meet
   case rel=>exact ⟨_,rfl,hbox⟩
  ·have hbox:=spot_set hb5 (Nat.le_refl _) z0 z1 r2 c2
   go_wp2_with fail
   go_meet
   case rel=>exact ⟨_,rfl,hbox⟩
 case rest =>
  obtain ⟨blk,rfl,hblk,s0,s1,hb5⟩:=hcut
  replace f0:=keepf hb5 q0 f0
  replace f1:=keepf hb5 q1 f1
  replace g0:=keepc hb5 g0; replace g1:=keepc hb5 g1; replace q0:=keepc hb5 q0; replace q1:=keepc hb5 q1
  have hz5:=hb5.size
  have hB5:=bcall hB4 (by omega) hb5
  clear hb5 hB4 hbU nv1
  go_wp2_with fail
  refine (isIn_any r2 c2 W H _ _ _ _ hW.1 (by omega) HH.out (by omega) (by omega)).mono ?_
  rintro e u6 ⟨rfl,hb6⟩
  replace f0:=keepf hb6 q0 f0
  replace f1:=keepf hb6 q1 f1
  replace g0:=keepc hb6 g0; replace g1:=keepc hb6 g1; replace q0:=keepc hb6 q0; replace q1:=keepc hb6 q1; replace s0:=keepc hb6 s0; replace s1:=keepc hb6 s1
  have hz6:=hb6.size
  have hB6:=bcall hB5 (by omega) hb6
  clear hb6 hB5
  rw [HB.out]
  cases b
  ·go_wp2
   refine bodyPost_ret (v:=rayV (0,0,false)) (by simp [results,Tryz.results108,go_sem,q0,q1,rayV]) rfl ⟨by simp,?_⟩
   exact (hB6.setCell (p:=⟨w.heap.size + 1,0,none⟩) (by simp) _).setCell (p:=⟨w.heap.size + 1,1,none⟩) (by simp) _
  ·go_wp2
   refine bodyPost_ret (v:=rayV (m + c2,0,true)) (by simp [results,Tryz.results108,go_sem,q0,q1,rayV]) rfl ⟨by simp,?_⟩
   exact (hB6.setCell (p:=⟨w.heap.size + 1,0,none⟩) (by simp) _).setCell (p:=⟨w.heap.size + 1,1,none⟩) (by simp) _
end Sp.Sn
namespace Sp.Sn
open Go.RowKit
theorem mv_1 (r c r2 c2:Int) (hr:0<=r/\r<=100) (hc:0<=c/\c<=100) (er:r + dRow 1=r2) (ec:c + dCol 1=c2) (w:World) :
  Calls SqN.prog 139 #[.agg #[.int .i64 r,.int .i64 c]] w fun e w'=>e=.returned (.agg #[.int .i64 r2,.int .i64 c2])/\Below w.heap.size w w':=by
 rw [<- er,<- ec]
 exact spot_right r c hr hc w
theorem implRay_1 (W H:Nat) (a:Option Addr) (cap:Nat) (cs:List (Int × Int)) (w:World) (h:CellsAt w a cs) (hok:okG (W:Int) cs=true) (hW:1<=W/\W<=5) (hH:cs.length / W=H) (hn:cs.length<=25) (x r c r2 c2 m y:Int)
  (hx:0<=x/\x < cs.length) (eq1:x / (W:Int)=r) (eq2:x % (W:Int)=c) (hr:0<=r/\r<=24) (hc:0<=c/\c<=4) (er:r + dRow 1=r2) (ec:c + dCol 1=c2) (hr2:-1<=r2/\r2<=25) (hc2:-1<=c2/\c2<=5) (em:r2 * (W:Int)=m) (hm:-5<=m/\m<=125) (b:Bool) (hb:inG r2 c2 W H=b) :
  Calls SqN.prog 108 #[.agg #[.int .i64 (W:Int),.slice a cs.length cap],.int .i64 x,.int .i64 1] w fun e w'=>e=.returned (rayV (if b then (m + c2,1,true) else (0,0,false)))/\Below w.heap.size w w':=by
 have HH:Hid (cs.length / W=H):=hH
 have HR:Hid (r + dRow 1=r2):=er
 have HC:Hid (c + dCol 1=c2):=ec
 have HB:Hid (inG r2 c2 W H=b):=hb
 have hp:inP x cs.length=true:=by simp [inP]; omega
 have hi:inB 1 0 3=true:=rfl
 have w1:IntKind.i64.wrap (r2 * (W:Int))=m:=by rw [em]; exact IntWalk.i64_in _ (by omega)
 have hne:(1:Int)<=(W:Int):=by omega
 have x0:0<=x:=hx.1
 have x1:x<=24:=by omega
 clear hH er ec em hb
 have hz:((W:Int) == 0)=false:=by simp; omega
 have hne0:¬ (W:Int)=0:=by omega
 have hneN:¬ W=0:=by omega
 have hzN:(W == 0)=false:=by simp; omega
 have e6:x.tdiv (W:Int)=r:=by rw [<- eq1]; exact Int.tdiv_eq_ediv_of_nonneg (by omega)
 have e7:x.tmod (W:Int)=c:=by rw [<- eq2]; exact Int.tmod_eq_emod_of_nonneg (by omega)
 have wr:IntKind.i64.wrap r=r:=IntWalk.i64_in _ (by omega)
 have wcc:IntKind.i64.wrap c=c:=IntWalk.i64_in _ (by omega)
 have hix:∀ w:World,Sem.run SqN.prog (Instr.index 184 (.agg #[.func (.func 138) #[] #[],.func (.func 139) #[] #[],.func (.func 140) #[] #[],.func (.func 141) #[] #[]]) (.int .i64 1)) w=.ok (.func (.func 139) #[] #[]) w:=fun w=>by simp [Instr.index,run_underlying SqN.underlying184,go_sem]
 go_enter SqN.func108,Tryz.ntmps108
 go_wp2_with fail
 refine (implGridOk_any _ _ _ cs _ (h.below bel) (by omega)).mono ?_
 rintro e u1 ⟨rfl,hb1⟩
 have g0:u1.cell? ⟨w.heap.size,0,none⟩=some (.int .i64 (W:Int)):=keepc hb1 (by simp [go_sem])
 have g1:u1.cell? ⟨w.heap.size,1,none⟩=some (.slice a cs.length cap):=keepc hb1 (by simp [go_sem])
 have q0:u1.cell? ⟨w.heap.size + 1,0,none⟩=some (.int .i64 0):=keepc hb1 (by simp [go_sem])
 have q1:u1.cell? ⟨w.heap.size + 1,1,none⟩=some (.int .i64 0):=keepc hb1 (by simp [go_sem])
 have f0:u1.frozen? ⟨w.heap.size + 1,0,none⟩=false:=keepf hb1 (v:=.int .i64 0) (by simp [go_sem]) (by simp [go_sem])
 have f1:u1.frozen? ⟨w.heap.size + 1,1,none⟩=false:=keepf hb1 (v:=.int .i64 0) (by simp [go_sem]) (by simp [go_sem])
 have hz1:w.heap.size + 2<=u1.heap.size:=by have:=hb1.size; simp at this; omega
 have hB1:Below w.heap.size w u1:=bcall bel (by simp; omega) hb1
 clear hb1
 go_wp2_with fail
 refine (placeOk_any _ _ _ _ _ (by omega) _).mono ?_
 rintro e u2 ⟨rfl,hb2⟩
 replace f0:=keepf hb2 q0 f0
 replace f1:=keepf hb2 q1 f1
 replace g0:=keepc hb2 g0; replace g1:=keepc hb2 g1; replace q0:=keepc hb2 q0; replace q1:=keepc hb2 q1
 have hz2:=hb2.size
 have hB2:=bcall hB1 (by omega) hb2
 clear hb2 hB1
 go_wp2_with fail
 refine (dirOk_any _ _).mono ?_
 rintro e u3 ⟨rfl,rfl⟩
 go_wp2_with fail
 refine (steps_any _).mono ?_
 rintro e u4 ⟨rfl,hb4⟩
 replace f0:=keepf hb4 q0 f0
 replace f1:=keepf hb4 q1 f1
 replace g0:=keepc hb4 g0; replace g1:=keepc hb4 g1; replace q0:=keepc hb4 q0; replace q1:=keepc hb4 q1
 have hz4:=hb4.size
 have hB4:=bcall hB2 (by omega) hb4
 clear hb4 hB2
 have hbU:Below u4.heap.size u4 (u4.alloc (.cells #[.int .i64 0,.int .i64 0] 187)):=bel
 have nv1:w.heap.size ≠ u4.heap.size:=by omega
 go_wp2
 go_cut [9] (fun s9 wc=>∃ blk:Nat,s9=.pointer (some ⟨blk,0,none⟩)/\SpotAt u4 wc blk r2 c2)
 case first =>
  go_region_held3 (fun w'=>w'.cell? ⟨w.heap.size,0,none⟩=some (.int .i64 (W:Int)))
   (first
    | with_reducible exact keepc hb5 g0
    | with_reducible exact keepc hbU g0
    | with_reducible exact keepc hb5V g0
    | with_reducible exact setc nv1 (setc nv1 (keepc hb5 g0))
    | go_keep)
   (first
    | (go_at_call 139; refine (mv_1 r c r2 c2 (by omega) (by omega) HR.out HC.out _).mono ?_; rintro e wa ⟨rfl,hb5'⟩; have hb5:Below u4.heap.size u4 wa:=(by first | with_reducible exact hb5' | with_reducible exact bdrew hb5'); have hb5V:Below u4.heap.size u4 (wa.alloc (.cells #[.int .i64 r2,.int .i64 c2] 187)):=bcall hb5 hb5.size ((Below.refl _ _).alloc (Nat.le_refl _) _))
    | (go_at_call 139; refine (mv_1 r c r2 c2 (by omega) (by omega) HR.out HC.out _).mono ?_; rintro e wa ⟨rfl,hb5'⟩; have hb5:Below u4.heap.size u4 wa:=(by first | with_reducible exact bcall hbU hbU.size hb5' | with_reducible exact bcall hbU hbU.size (bdrew hb5')); have z0:wa.cell? ⟨u4.heap.size,0,none⟩=some (.int .i64 0):=keepc hb5' (by simp [go_sem]); have z1:wa.cell? ⟨u4.heap.size,1,none⟩=some (.int .i64 0):=keepc hb5' (by simp [go_sem]); have zf0:wa.frozen? ⟨u4.heap.size,0,none⟩=false:=keepf hb5' (v:=.int .i64 0) (by simp [go_sem]) (by simp [go_sem]); have zf1:wa.frozen? ⟨u4.heap.size,1,none⟩=false:=keepf hb5' (v:=.int .i64 0) (by simp [go_sem]) (by simp [go_sem])))
  ·have hbox:=spot_new hb5 r2 c2
   go_wp2_with fail
   go_meet
   case rel=>exact ⟨_,rfl,hbox⟩
  ·have hbox:=spot_set hb5 (Nat.le_refl _) z0 z1 r2 c2
   go_wp2_with fail
   go_meet
   case rel=>exact ⟨_,rfl,hbox⟩
 case rest =>
  obtain ⟨blk,rfl,hblk,s0,s1,hb5⟩:=hcut
  replace f0:=keepf hb5 q0 f0
  replace f1:=keepf hb5 q1 f1
  replace g0:=keepc hb5 g0; replace g1:=keepc hb5 g1; replace q0:=keepc hb5 q0; replace q1:=keepc hb5 q1
  have hz5:=hb5.size
  have hB5:=bcall hB4 (by omega) hb5
  clear hb5 hB4 hbU nv1
  go_wp2_with fail
  refine (isIn_any r2 c2 W H _ _ _ _ hW.1 (by omega) HH.out (by omega) (by omega)).mono ?_
  rintro e u6 ⟨rfl,hb6⟩
  replace f0:=keepf hb6 q0 f0
  replace f1:=keepf hb6 q1 f1
  replace g0:=keepc hb6 g0; replace g1:=keepc hb6 g1; replace q0:=keepc hb6 q0; replace q1:=keepc hb6 q1; replace s0:=keepc hb6 s0; replace s1:=keepc hb6 s1
  have hz6:=hb6.size
  have hB6:=bcall hB5 (by omega) hb6
  clear hb6 hB5
  rw [HB.out]
  cases b
  ·go_wp2
   refine bodyPost_ret (v:=rayV (0,0,false)) (by simp [results,Tryz.results108,go_sem,q0,q1,rayV]) rfl ⟨by simp,?_⟩
   exact (hB6.setCell (p:=⟨w.heap.size + 1,0,none⟩) (by simp) _).setCell (p:=⟨w.heap.size + 1,1,none⟩) (by simp) _
  ·go_wp2
   refine bodyPost_ret (v:=rayV (m + c2,1,true)) (by simp [results,Tryz.results108,go_sem,q0,q1,rayV]) rfl ⟨by simp,?_⟩
   exact (hB6.setCell (p:=⟨w.heap.size + 1,0,none⟩) (by simp) _).setCell (p:=⟨w.heap.size + 1,1,none⟩) (by simp) _
end Sp.Sn
end Go.Proofs.YtdhopelplokehaaGreat
