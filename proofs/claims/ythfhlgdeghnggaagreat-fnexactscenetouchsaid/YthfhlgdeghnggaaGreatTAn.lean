/- Part. -/
import Derived.Laws.EntriesVeiled
import Derived.Deep.RegionHeld3
import Derived.BigQuiet
import Derived.Deep.DeepCutAuto
import Derived.Test.YthfhlgdeghnggaaGreatTAm
set_option maxHeartbeats 8000000
set_option linter.unusedVariables false
namespace Go.Proofs.YthfhlgdeghnggaaGreat
variable{wd:Int}{cs:List (Int × Int)}{w0 wa:World}
namespace Sp
variable{aLt:Nat->Func->Func}
open Go.RowKit
def zbg(d:Int):Int:=if d=0 then -1 else if d=2 then 1 else 0
def zbx(d:Int):Int:=if d=1 then 1 else if d=3 then -1 else 0
def inG(r c W H:Int):Bool:=decide (0<=r/\r<H/\0<=c/\c<W)
theorem zrR(r c:Int)(hr:0<=r/\r<=100)(hc:0<=c/\c<=100)(w:World) :
  Calls (SqG.prog aLt) 157 #[.agg #[.int .i64 r,.int .i64 c]] w fun e w'=>e=.returned (.agg #[.int .i64 (r+zbg 0),.int .i64 (c+zbx 0)])/\Below w.heap.size w w':=by
 obtain⟨r2,er⟩:∃ r2,r+zbg 0=r2:=⟨_,rfl⟩
 obtain⟨c2,ec⟩:∃ c2,c+zbx 0=c2:=⟨_,rfl⟩
 rw[er,ec]
 simp[zbg] at er
 simp[zbx] at ec
 subst er ec
 go_enter SqG.func157,Tryz.ntmps157
 go_wp2
 refine bodyPost_ret (v:=.agg #[.int .i64 (r+-1),.int .i64 c]) (by simp[results,Tryz.results157,go_sem,Int.sub_eq_add_neg]) rfl ⟨rfl,?_⟩
 exact bel
theorem zmp(r c:Int)(hr:0<=r/\r<=100)(hc:0<=c/\c<=100)(w:World) :
  Calls (SqG.prog aLt) 158 #[.agg #[.int .i64 r,.int .i64 c]] w fun e w'=>e=.returned (.agg #[.int .i64 (r+zbg 1),.int .i64 (c+zbx 1)])/\Below w.heap.size w w':=by
 obtain⟨r2,er⟩:∃ r2,r+zbg 1=r2:=⟨_,rfl⟩
 obtain⟨c2,ec⟩:∃ c2,c+zbx 1=c2:=⟨_,rfl⟩
 rw[er,ec]
 simp[zbg] at er
 simp[zbx] at ec
 subst er ec
 go_enter SqG.func158,Tryz.ntmps158
 go_wp2
 refine bodyPost_ret (v:=.agg #[.int .i64 r,.int .i64 (c+1)]) (by simp[results,Tryz.results158,go_sem]) rfl ⟨rfl,?_⟩
 exact bel
theorem zow(r c:Int)(hr:0<=r/\r<=100)(hc:0<=c/\c<=100)(w:World) :
  Calls (SqG.prog aLt) 159 #[.agg #[.int .i64 r,.int .i64 c]] w fun e w'=>e=.returned (.agg #[.int .i64 (r+zbg 2),.int .i64 (c+zbx 2)])/\Below w.heap.size w w':=by
 obtain⟨r2,er⟩:∃ r2,r+zbg 2=r2:=⟨_,rfl⟩
 obtain⟨c2,ec⟩:∃ c2,c+zbx 2=c2:=⟨_,rfl⟩
 rw[er,ec]
 simp[zbg] at er
 simp[zbx] at ec
 subst er ec
 go_enter SqG.func159,Tryz.ntmps159
 go_wp2
 refine bodyPost_ret (v:=.agg #[.int .i64 (r+1),.int .i64 c]) (by simp[results,Tryz.results159,go_sem]) rfl ⟨rfl,?_⟩
 exact bel
theorem zox(r c:Int)(hr:0<=r/\r<=100)(hc:0<=c/\c<=100)(w:World) :
  Calls (SqG.prog aLt) 160 #[.agg #[.int .i64 r,.int .i64 c]] w fun e w'=>e=.returned (.agg #[.int .i64 (r+zbg 3),.int .i64 (c+zbx 3)])/\Below w.heap.size w w':=by
 obtain⟨r2,er⟩:∃ r2,r+zbg 3=r2:=⟨_,rfl⟩
 obtain⟨c2,ec⟩:∃ c2,c+zbx 3=c2:=⟨_,rfl⟩
 rw[er,ec]
 simp[zbg] at er
 simp[zbx] at ec
 subst er ec
 go_enter SqG.func160,Tryz.ntmps160
 go_wp2
 refine bodyPost_ret (v:=.agg #[.int .i64 r,.int .i64 (c+-1)]) (by simp[results,Tryz.results160,go_sem,Int.sub_eq_add_neg]) rfl ⟨rfl,?_⟩
 exact bel
theorem zep(w:World) :
  Calls (SqG.prog aLt) 149 #[] w fun e w'=>e=.returned (.agg #[.func (.func 157) #[] #[],.func (.func 158) #[] #[],.func (.func 159) #[] #[],.func (.func 160) #[] #[]])/\Below w.heap.size w w':=by
 go_enter SqG.func149,Tryz.ntmps149
 go_wp2
 refine bodyPost_ret (v:=.agg #[.func (.func 157) #[] #[],.func (.func 158) #[] #[],.func (.func 159) #[] #[],.func (.func 160) #[] #[]]) (by simp[results,Tryz.results149,go_sem]) rfl ⟨rfl,?_⟩
 exact bel
theorem zfa(r c:Int)(W H:Nat)(a:Option Addr)(n cap:Nat)(w:World)(hW:1<=W)(hn:n<=1048576)(hH:n / W=H)(hr:-1<=r/\r<=101)(hc:-1<=c/\c<=101) :
  Calls (SqG.prog aLt) 150 #[.agg #[.int .i64 r,.int .i64 c],.agg #[.int .i64 (W:Int),.slice a n cap]] w fun e w'=>e=.returned (.bool (inG r c W H))/\Below w.heap.size w w':=by
 have HH:Hid (n / W=H):=hH
 clear hH
 by_cases g0:r<0
 ·have hv:inG r c W H=false:=by simp[inG];omega
  have f1:decide (0<=r)=false:=by simp;omega
  rw[hv]
  clear hv g0
  go_enter SqG.func150,Tryz.ntmps150
  go_wp2
  go_quiet (fail)
  go_wp2
  go_ret
  exact⟨rfl,(fun h=>⟨h.os,h.tape,h.output,h.size,h.block⟩:Below w.heap.size w ((w.alloc (.cells #[.int .i64 r,.int .i64 c] 223)).alloc (.cells #[.int .i64 (W:Int),.slice a n cap] 33))->_) bel⟩
 ·skip
  by_cases g1:(H:Int)<=r
  ·have hv:inG r c W H=false:=by simp[inG];omega
   have f1:decide (0<=r)=true:=by simp;omega
   have f2:decide (r<(H:Int))=false:=by simp;omega
   rw[hv]
   clear hv g0 g1
   obtain⟨w0,hw0⟩:∃ w0,w0=(w.alloc (.cells #[.int .i64 r,.int .i64 c] 223)).alloc (.cells #[.int .i64 (W:Int),.slice a n cap] 33):=⟨_,rfl⟩
   have hb0:Below w.heap.size w w0:=by rw[hw0];exact bel
   have s0:w0.cell? ⟨w.heap.size,0,none⟩=some (.int .i64 r):=by rw[hw0];simp[go_sem]
   have s1:w0.cell? ⟨w.heap.size,1,none⟩=some (.int .i64 c):=by rw[hw0];simp[go_sem]
   have g0:w0.cell? ⟨w.heap.size+1,0,none⟩=some (.int .i64 (W:Int)):=by rw[hw0];simp[go_sem]
   have g1:w0.cell? ⟨w.heap.size+1,1,none⟩=some (.slice a n cap):=by rw[hw0];simp[go_sem]
   go_enter SqG.func150,Tryz.ntmps150
   go_wp2
   rw[<- hw0]
   clear hw0
   first
    | (go_region_with
      (first
       | (go_at_call 83;refine(zc5 W H _ _ _ _ hW hn HH.out).mono ?_;rintro e w6 ⟨rfl,hb6'⟩;have hb6:Below w0.heap.size w0 w6:=(by first|with_reducible exact hb6'|with_reducible exact zbZ hb6');have s06:=zab hb6 s0;have s16:=zab hb6 s1;have g06:=zab hb6 g0;have g16:=zab hb6 g1)))
    | fail
   all_goals
    have hBf:=zaj hb0 hb0.size hb6
    go_wp2
    go_ret
    exact⟨rfl,by first|exact hBf|exact hBf.drew⟩
  ·skip
   by_cases g2:c<0
   ·have hv:inG r c W H=false:=by simp[inG];omega
    have f1:decide (0<=r)=true:=by simp;omega
    have f2:decide (r<(H:Int))=true:=by simp;omega
    have f3:decide (0<=c)=false:=by simp;omega
    rw[hv]
    clear hv g0 g1 g2
    obtain⟨w0,hw0⟩:∃ w0,w0=(w.alloc (.cells #[.int .i64 r,.int .i64 c] 223)).alloc (.cells #[.int .i64 (W:Int),.slice a n cap] 33):=⟨_,rfl⟩
    have hb0:Below w.heap.size w w0:=by rw[hw0];exact bel
    have s0:w0.cell? ⟨w.heap.size,0,none⟩=some (.int .i64 r):=by rw[hw0];simp[go_sem]
    have s1:w0.cell? ⟨w.heap.size,1,none⟩=some (.int .i64 c):=by rw[hw0];simp[go_sem]
    have g0:w0.cell? ⟨w.heap.size+1,0,none⟩=some (.int .i64 (W:Int)):=by rw[hw0];simp[go_sem]
    have g1:w0.cell? ⟨w.heap.size+1,1,none⟩=some (.slice a n cap):=by rw[hw0];simp[go_sem]
    go_enter SqG.func150,Tryz.ntmps150
    go_wp2
    rw[<- hw0]
    clear hw0
    first
     | (go_region_with
       (first
        | (go_at_call 83;refine(zc5 W H _ _ _ _ hW hn HH.out).mono ?_;rintro e w6 ⟨rfl,hb6'⟩;have hb6:Below w0.heap.size w0 w6:=(by first|with_reducible exact hb6'|with_reducible exact zbZ hb6');have s06:=zab hb6 s0;have s16:=zab hb6 s1;have g06:=zab hb6 g0;have g16:=zab hb6 g1)))
     | fail
    all_goals
     have hBf:=zaj hb0 hb0.size hb6
     go_wp2
     go_ret
     exact⟨rfl,by first|exact hBf|exact hBf.drew⟩
   ·skip
    by_cases g3:(W:Int)<=c
    ·have hv:inG r c W H=false:=by simp[inG];omega
     have f1:decide (0<=r)=true:=by simp;omega
     have f2:decide (r<(H:Int))=true:=by simp;omega
     have f3:decide (0<=c)=true:=by simp;omega
     have f4:decide (c<(W:Int))=false:=by simp;omega
     rw[hv]
     clear hv g0 g1 g2 g3
     obtain⟨w0,hw0⟩:∃ w0,w0=(w.alloc (.cells #[.int .i64 r,.int .i64 c] 223)).alloc (.cells #[.int .i64 (W:Int),.slice a n cap] 33):=⟨_,rfl⟩
     have hb0:Below w.heap.size w w0:=by rw[hw0];exact bel
     have s0:w0.cell? ⟨w.heap.size,0,none⟩=some (.int .i64 r):=by rw[hw0];simp[go_sem]
     have s1:w0.cell? ⟨w.heap.size,1,none⟩=some (.int .i64 c):=by rw[hw0];simp[go_sem]
     have g0:w0.cell? ⟨w.heap.size+1,0,none⟩=some (.int .i64 (W:Int)):=by rw[hw0];simp[go_sem]
     have g1:w0.cell? ⟨w.heap.size+1,1,none⟩=some (.slice a n cap):=by rw[hw0];simp[go_sem]
     go_enter SqG.func150,Tryz.ntmps150
     go_wp2
     rw[<- hw0]
     clear hw0
     go_region_held3 (fun w'=>w'.cell? ⟨w.heap.size,0,none⟩=some (.int .i64 r)/\w'.cell? ⟨w.heap.size,1,none⟩=some (.int .i64 c)/\w'.cell? ⟨w.heap.size+1,0,none⟩=some (.int .i64 (W:Int))/\w'.cell? ⟨w.heap.size+1,1,none⟩=some (.slice a n cap))
      (first
       | with_reducible exact⟨zab hb6 s0,zab hb6 s1,zab hb6 g0,zab hb6 g1⟩
       | go_keep)
      (first
       | (go_at_call 83;refine(zc5 W H _ _ _ _ hW hn HH.out).mono ?_;rintro e w6 ⟨rfl,hb6'⟩;have hb6:Below w0.heap.size w0 w6:=(by first|with_reducible exact hb6'|with_reducible exact zbZ hb6')))
     have hBf:=zaj hb0 hb0.size hb6
     go_wp2
     go_ret
     exact⟨rfl,hBf⟩
    ·skip
     have hv:inG r c W H=true:=by simp[inG];omega
     have f1:decide (0<=r)=true:=by simp;omega
     have f2:decide (r<(H:Int))=true:=by simp;omega
     have f3:decide (0<=c)=true:=by simp;omega
     have f4:decide (c<(W:Int))=true:=by simp;omega
     rw[hv]
     clear hv g0 g1 g2 g3
     obtain⟨w0,hw0⟩:∃ w0,w0=(w.alloc (.cells #[.int .i64 r,.int .i64 c] 223)).alloc (.cells #[.int .i64 (W:Int),.slice a n cap] 33):=⟨_,rfl⟩
     have hb0:Below w.heap.size w w0:=by rw[hw0];exact bel
     have s0:w0.cell? ⟨w.heap.size,0,none⟩=some (.int .i64 r):=by rw[hw0];simp[go_sem]
     have s1:w0.cell? ⟨w.heap.size,1,none⟩=some (.int .i64 c):=by rw[hw0];simp[go_sem]
     have g0:w0.cell? ⟨w.heap.size+1,0,none⟩=some (.int .i64 (W:Int)):=by rw[hw0];simp[go_sem]
     have g1:w0.cell? ⟨w.heap.size+1,1,none⟩=some (.slice a n cap):=by rw[hw0];simp[go_sem]
     go_enter SqG.func150,Tryz.ntmps150
     go_wp2
     rw[<- hw0]
     clear hw0
     go_region_held3 (fun w'=>w'.cell? ⟨w.heap.size,0,none⟩=some (.int .i64 r)/\w'.cell? ⟨w.heap.size,1,none⟩=some (.int .i64 c)/\w'.cell? ⟨w.heap.size+1,0,none⟩=some (.int .i64 (W:Int))/\w'.cell? ⟨w.heap.size+1,1,none⟩=some (.slice a n cap))
      (first
       | with_reducible exact⟨zab hb6 s0,zab hb6 s1,zab hb6 g0,zab hb6 g1⟩
       | go_keep)
      (first
       | (go_at_call 83;refine(zc5 W H _ _ _ _ hW hn HH.out).mono ?_;rintro e w6 ⟨rfl,hb6'⟩;have hb6:Below w0.heap.size w0 w6:=(by first|with_reducible exact hb6'|with_reducible exact zbZ hb6')))
     have hBf:=zaj hb0 hb0.size hb6
     go_wp2
     go_ret
     exact⟨rfl,hBf⟩
def zbJ(wd:Int)(cs:List (Int × Int))(x d:Int):Int × Int × Bool :=
 if okG wd cs=true/\(0<=x/\x<cs.length)/\(0<=d/\d<=3)/\inG (x / wd+zbg d) (x % wd+zbx d) wd ((cs.length:Int) / wd)=true then ((x / wd+zbg d) * wd+(x % wd+zbx d),d,true) else (0,0,false)
def zby(p:Int × Int × Bool):Value:=.tuple #[.agg #[.int .i64 p.1,.int .i64 p.2.1],.bool p.2.2]
theorem zrd(h:okG wd cs=true):∃ W H:Nat,wd=(W:Int)/\1<=W/\W<=5/\1<=H/\H<=5/\cs.length=W * H/\cs.length / W=H/\(cs.length:Int) / (W:Int)=(H:Int)/\cs.length<=25:=by
 have hs:zcw wd cs.length=true:=by unfold okG at h;simp only[Bool.and_eq_true] at h;exact h.1
 simp only[zcw,decide_eq_true_eq] at hs
 obtain⟨h1,h2,h3,h4,h5⟩:=hs
 obtain⟨W,rfl⟩:∃ W:Nat,wd=(W:Int):=⟨wd.toNat,by omega⟩
 obtain⟨H,eH⟩:∃ H:Nat,(cs.length:Int) / (W:Int)=(H:Int):=⟨((cs.length:Int) / (W:Int)).toNat,by omega⟩
 rw[eH] at h4 h5
 have e2:(cs.length:Int)=(W:Int) * (H:Int):=by
  have:=Int.mul_ediv_add_emod (cs.length:Int) (W:Int)
  rw[eH,h3] at this
  omega
 have e3:cs.length=W * H:=by exact_mod_cast e2
 refine⟨W,H,rfl,by omega,by omega,by omega,by omega,e3,?_,eH,?_⟩
 ·rw[e3];exact Nat.mul_div_cancel_left H (by omega)
 ·rw[e3];exact Nat.le_trans (Nat.mul_le_mul (show W<=5 by omega) (show H<=5 by omega)) (by omega)
def zgF(w0 wc:World)(blk:Nat)(r c:Int):Prop:=w0.heap.size<=blk/\wc.cell? ⟨blk,0,none⟩=some (.int .i64 r)/\wc.cell? ⟨blk,1,none⟩=some (.int .i64 c)/\Below w0.heap.size w0 wc
theorem zfk(h:Below w0.heap.size w0 wa)(r c:Int):zgF w0 (wa.alloc (.cells #[.int .i64 r,.int .i64 c] 223)) wa.heap.size r c :=
 ⟨h.size,by simp[go_sem],by simp[go_sem],zaj h h.size ((Below.refl _ _).alloc (Nat.le_refl _) _)⟩
theorem zfl{blk:Nat}{u0 u1:Value}(h:Below w0.heap.size w0 wa)(h0:w0.heap.size<=blk)(z0:wa.cell? ⟨blk,0,none⟩=some u0)(z1:wa.cell? ⟨blk,1,none⟩=some u1)(r c:Int) :
  zgF w0 ((wa.setCell ⟨blk,0,none⟩ (.int .i64 r)).setCell ⟨blk,1,none⟩ (.int .i64 c)) blk r c:=by
 refine⟨h0,?_,?_,(h.setCell (p:=⟨blk,0,none⟩) h0 _).setCell (p:=⟨blk,1,none⟩) h0 _⟩
 ·rw[World.cell?_setCell_other _ _ _ _ (by simp)]
  exact World.cell?_setCell_same _ _ _ z0
 ·exact World.cell?_setCell_same _ _ _ (by rw[World.cell?_setCell_other _ _ _ _ (by simp)];exact z1)
theorem zob(W r c:Int)(hc:0<=c/\c<W):(r * W+c) / W=r/\(r * W+c) % W=c :=
 (Int.ediv_emod_unique (show (0:Int)<W by omega)).2 ⟨by rw[Int.mul_comm W r];omega,hc.1,hc.2⟩
theorem zk1(W H r c:Int)(hr:0<=r/\r<H)(hc:0<=c/\c<W):0<=r * W+c/\r * W+c<W * H:=by
 have h1:0<=r * W:=Int.mul_nonneg hr.1 (by omega)
 have h2:(r+1) * W<=H * W:=Int.mul_le_mul_of_nonneg_right (by omega) (by omega)
 rw[Int.add_mul,Int.one_mul,Int.mul_comm H W] at h2
 omega
structure Shape(wd:Int)(cs:List (Int × Int))(W H:Int):Prop where
 ok:okG wd cs=true
 ew:wd=W
 hW:1<=W/\W<=5
 hH:1<=H/\H<=5
 el:(cs.length:Int)=W * H
 ed:(cs.length:Int) / wd=H
theorem zqm(h:okG wd cs=true):∃ W H,Shape wd cs W H:=by
 obtain⟨W,H,ew,h1,h2,h3,h4,el,hH,hHI,hn⟩:=zrd h
 exact⟨W,H,h,ew,by omega,by omega,by exact_mod_cast el,by rw[ew];exact hHI⟩
theorem zqp{W H x:Int}(S:Shape wd cs W H)(hx:0<=x/\x<cs.length):∃ r c,x=r * W+c/\(0<=r/\r<H)/\(0<=c/\c<W):=by
 have hW:=S.hW
 have e:=Int.mul_ediv_add_emod x W
 refine⟨x / W,x % W,by rw[Int.mul_comm];omega,⟨Int.ediv_nonneg hx.1 (by omega),Int.ediv_lt_of_lt_mul (by omega) ?_⟩,Int.emod_nonneg x (by omega),Int.emod_lt_of_pos x (by omega)⟩
 rw[Int.mul_comm,<- S.el]
 exact hx.2
theorem zod{W H:Int}(S:Shape wd cs W H)(r c d:Int)(hr:0<=r/\r<H)(hc:0<=c/\c<W)(hd:0<=d/\d<=3) :
  zbJ wd cs (r * W+c) d=if inG (r+zbg d) (c+zbx d) W H=true then ((r+zbg d) * W+(c+zbx d),d,true) else (0,0,false):=by
 obtain⟨q1,q2⟩:=zob W r c hc
 have q3:=zk1 W H r c hr hc
 unfold zbJ
 rw[S.ed,S.ew,q1,q2]
 rw[S.el]
 have ok:=S.ok
 rw[S.ew] at ok
 by_cases k:inG (r+zbg d) (c+zbx d) W H=true
 ·rw[if_pos ⟨ok,q3,hd,k⟩,if_pos k]
 ·rw[if_neg (fun q=>k q.2.2.2),if_neg k]
theorem ziR{x d x2 d2:Int}(h:zbJ wd cs x d=(x2,d2,true)):okG wd cs=true/\(0<=x/\x<(cs.length:Int))/\(0<=d/\d<=3)/\d2=d:=by
 unfold zbJ at h
 split at h
 ·next k=>simp only[Prod.mk.injEq] at h;exact⟨k.1,k.2.1,k.2.2.1,h.2.1.symm⟩
 ·simp at h
def zsG(d W:Int):Int:=if d=0 then -W else if d=1 then 1 else if d=2 then W else -1
theorem zk3{x d x2 d2:Int}(h:zbJ wd cs x d=(x2,d2,true)) :
  d2=d/\(0<=d/\d<=3)/\(0<=x/\x<=24)/\(0<=x2/\x2<=24)/\(1<=wd/\wd<=5)/\zbJ wd cs x2 ((d+2) % 4)=(x,(d+2) % 4,true)/\x+zsG d wd=x2:=by
 obtain⟨hok,hx,hd,e2⟩:=ziR h
 obtain⟨W,H,S⟩:=zqm hok
 obtain⟨r,c,ex,hr,hc⟩:=zqp S hx
 have hW:=S.hW
 have hH:=S.hH
 have hl:(cs.length:Int)<=25:=by rw[S.el];exact Int.le_trans (Int.mul_le_mul hW.2 hH.2 (by omega) (by omega)) (by omega)
 subst e2
 rw[ex,zod S r c d2 hr hc hd] at h
 split at h
 ·next k =>
  simp only[inG,decide_eq_true_eq] at k
  simp only[Prod.mk.injEq,and_true] at h
  have k1:0<=r+zbg d2/\r+zbg d2<H:=⟨k.1,k.2.1⟩
  have k2:0<=c+zbx d2/\c+zbx d2<W:=k.2.2
  have q3:=zk1 W H _ _ k1 k2
  rw[h,<- S.el] at q3
  have hd4:0<=(d2+2) % 4/\(d2+2) % 4<=3:=by omega
  refine⟨rfl,hd,by omega,by omega,by have:=S.ew;omega,?_,?_⟩
  ·rw[<- h,zod S _ _ _ k1 k2 hd4]
   have e1:r+zbg d2+zbg ((d2+2) % 4)=r:=by
    rcases (show d2=0\/d2=1\/d2=2\/d2=3 by omega) with rfl|rfl|rfl|rfl <;> simp[zbg] <;> omega
   have e2:c+zbx d2+zbx ((d2+2) % 4)=c:=by
    rcases (show d2=0\/d2=1\/d2=2\/d2=3 by omega) with rfl|rfl|rfl|rfl <;> simp[zbx] <;> omega
   rw[e1,e2,if_pos (by simp[inG];omega),<- ex]
  ·rw[<- h,ex,S.ew]
   rcases (show d2=0\/d2=1\/d2=2\/d2=3 by omega) with rfl|rfl|rfl|rfl <;> simp[zbg,zbx,zsG,Int.add_mul] <;> omega
 ·simp at h
theorem zs7(r c r2 c2:Int)(hr:0<=r/\r<=100)(hc:0<=c/\c<=100)(er:r+zbg 0=r2)(ec:c+zbx 0=c2)(w:World) :
  Calls (SqG.prog aLt) 157 #[.agg #[.int .i64 r,.int .i64 c]] w fun e w'=>e=.returned (.agg #[.int .i64 r2,.int .i64 c2])/\Below w.heap.size w w':=by
 rw[<- er,<- ec]
 exact zrR r c hr hc w
theorem znC(W H:Nat)(a:Option Addr)(cap:Nat)(cs:List (Int × Int))(w:World)(h:zak w a cs)(hok:okG (W:Int) cs=true)(hW:1<=W/\W<=5)(hH:cs.length / W=H)(hn:cs.length<=25)(x r c r2 c2 m y:Int)(hx:0<=x/\x<cs.length)(eq1:x / (W:Int)=r)(eq2:x % (W:Int)=c)(hr:0<=r/\r<=24)(hc:0<=c/\c<=4)(er:r+zbg 0=r2)(ec:c+zbx 0=c2)(hr2:-1<=r2/\r2<=25)(hc2:-1<=c2/\c2<=5)(em:r2 * (W:Int)=m)(hm:-5<=m/\m<=125)(b:Bool)(hb:inG r2 c2 W H=b) :
  Calls (SqG.prog aLt) 132 #[.agg #[.int .i64 (W:Int),.slice a cs.length cap],.int .i64 x,.int .i64 0] w fun e w'=>e=.returned (zby (if b then (m+c2,0,true) else (0,0,false)))/\Below w.heap.size w w':=by
 have HH:Hid (cs.length / W=H):=hH
 have HR:Hid (r+zbg 0=r2):=er
 have HC:Hid (c+zbx 0=c2):=ec
 have HB:Hid (inG r2 c2 W H=b):=hb
 have hp:inP x cs.length=true:=by simp[inP];omega
 have hi:inB 0 0 3=true:=rfl
 have w1:IntKind.i64.wrap (r2 * (W:Int))=m:=by rw[em];exact IntWalk.i64_in _ (by omega)
 have hne:(1:Int)<=(W:Int):=by omega
 have x0:0<=x:=hx.1
 have x1:x<=24:=by omega
 clear hH er ec em hb
 have hz:((W:Int) == 0)=false:=by simp;omega
 have hne0:¬ (W:Int)=0:=by omega
 have hneN:¬ W=0:=by omega
 have hzN:(W == 0)=false:=by simp;omega
 have e6:x.tdiv (W:Int)=r:=by rw[<- eq1];exact Int.tdiv_eq_ediv_of_nonneg (by omega)
 have e7:x.tmod (W:Int)=c:=by rw[<- eq2];exact Int.tmod_eq_emod_of_nonneg (by omega)
 have wr:IntKind.i64.wrap r=r:=IntWalk.i64_in _ (by omega)
 have wcc:IntKind.i64.wrap c=c:=IntWalk.i64_in _ (by omega)
 have hix:∀ w:World,Sem.run (SqG.prog aLt) (Instr.index 220 (.agg #[.func (.func 157) #[] #[],.func (.func 158) #[] #[],.func (.func 159) #[] #[],.func (.func 160) #[] #[]]) (.int .i64 0)) w=.ok (.func (.func 157) #[] #[]) w:=fun w=>by simp[Instr.index,run_underlying SqG.underlying220,go_sem]
 go_enter SqG.func132,Tryz.ntmps132
 go_wp2_with fail
 refine(zaw _ _ _ cs _ (h.below bel) (by omega)).mono ?_
 rintro e u1 ⟨rfl,hb1⟩
 have g0:u1.cell? ⟨w.heap.size,0,none⟩=some (.int .i64 (W:Int)):=zab hb1 (by simp[go_sem])
 have g1:u1.cell? ⟨w.heap.size,1,none⟩=some (.slice a cs.length cap):=zab hb1 (by simp[go_sem])
 have q0:u1.cell? ⟨w.heap.size+1,0,none⟩=some (.int .i64 0):=zab hb1 (by simp[go_sem])
 have q1:u1.cell? ⟨w.heap.size+1,1,none⟩=some (.int .i64 0):=zab hb1 (by simp[go_sem])
 have f0:u1.frozen? ⟨w.heap.size+1,0,none⟩=false:=zam hb1 (v:=.int .i64 0) (by simp[go_sem]) (by simp[go_sem])
 have f1:u1.frozen? ⟨w.heap.size+1,1,none⟩=false:=zam hb1 (v:=.int .i64 0) (by simp[go_sem]) (by simp[go_sem])
 have hz1:w.heap.size+2<=u1.heap.size:=by have:=hb1.size;simp at this;omega
 have hB1:Below w.heap.size w u1:=zaj bel (by simp;omega) hb1
 clear hb1
 go_wp2_with fail
 refine(zb3 _ _ _ _ _ (by omega) _).mono ?_
 rintro e u2 ⟨rfl,hb2⟩
 replace f0:=zam hb2 q0 f0
 replace f1:=zam hb2 q1 f1
 replace g0:=zab hb2 g0;replace g1:=zab hb2 g1;replace q0:=zab hb2 q0;replace q1:=zab hb2 q1
 have hz2:=hb2.size
 have hB2:=zaj hB1 (by omega) hb2
 clear hb2 hB1
 go_wp2_with fail
 refine(zbp _ _).mono ?_
 rintro e u3 ⟨rfl,rfl⟩
 go_wp2_with fail
 refine(zep _).mono ?_
 rintro e u4 ⟨rfl,hb4⟩
 replace f0:=zam hb4 q0 f0
 replace f1:=zam hb4 q1 f1
 replace g0:=zab hb4 g0;replace g1:=zab hb4 g1;replace q0:=zab hb4 q0;replace q1:=zab hb4 q1
 have hz4:=hb4.size
 have hB4:=zaj hB2 (by omega) hb4
 clear hb4 hB2
 have hbU:Below u4.heap.size u4 (u4.alloc (.cells #[.int .i64 0,.int .i64 0] 223)):=bel
 have nv1:w.heap.size≠u4.heap.size:=by omega
 go_wp2
 go_cut [9] (fun s9 wc=>∃ blk:Nat,s9=.pointer (some ⟨blk,0,none⟩)/\zgF u4 wc blk r2 c2)
 case first =>
  go_region_held3 (fun w'=>w'.cell? ⟨w.heap.size,0,none⟩=some (.int .i64 (W:Int)))
   (first
    | with_reducible exact zab hb5 g0
    | with_reducible exact zab hbU g0
    | with_reducible exact zab hb5V g0
    | with_reducible exact zo6 nv1 (zo6 nv1 (zab hb5 g0))
    | go_keep)
   (first
    | (go_at_call 157;refine(zs7 r c r2 c2 (by omega) (by omega) HR.out HC.out _).mono ?_;rintro e wa ⟨rfl,hb5'⟩;have hb5:Below u4.heap.size u4 wa:=(by first|with_reducible exact hb5'|with_reducible exact zbZ hb5');have hb5V:Below u4.heap.size u4 (wa.alloc (.cells #[.int .i64 r2,.int .i64 c2] 223)):=zaj hb5 hb5.size ((Below.refl _ _).alloc (Nat.le_refl _) _))
    | (go_at_call 157;refine(zs7 r c r2 c2 (by omega) (by omega) HR.out HC.out _).mono ?_;rintro e wa ⟨rfl,hb5'⟩;have hb5:Below u4.heap.size u4 wa:=(by first|with_reducible exact zaj hbU hbU.size hb5'|with_reducible exact zaj hbU hbU.size (zbZ hb5'));have z0:wa.cell? ⟨u4.heap.size,0,none⟩=some (.int .i64 0):=zab hb5' (by simp[go_sem]);have z1:wa.cell? ⟨u4.heap.size,1,none⟩=some (.int .i64 0):=zab hb5' (by simp[go_sem]);have zf0:wa.frozen? ⟨u4.heap.size,0,none⟩=false:=zam hb5' (v:=.int .i64 0) (by simp[go_sem]) (by simp[go_sem]);have zf1:wa.frozen? ⟨u4.heap.size,1,none⟩=false:=zam hb5' (v:=.int .i64 0) (by simp[go_sem]) (by simp[go_sem])))
  ·have hbox:=zfk hb5 r2 c2
   go_wp2_with fail
   go_meet
   case rel=>exact⟨_,rfl,hbox⟩
  ·have hbox:=zfl hb5 (Nat.le_refl _) z0 z1 r2 c2
   go_wp2_with fail
   go_meet
   case rel=>exact⟨_,rfl,hbox⟩
 case rest =>
  obtain⟨blk,rfl,hblk,s0,s1,hb5⟩:=hcut
  replace f0:=zam hb5 q0 f0
  replace f1:=zam hb5 q1 f1
  replace g0:=zab hb5 g0;replace g1:=zab hb5 g1;replace q0:=zab hb5 q0;replace q1:=zab hb5 q1
  have hz5:=hb5.size
  have hB5:=zaj hB4 (by omega) hb5
  clear hb5 hB4 hbU nv1
  go_wp2_with fail
  refine(zfa r2 c2 W H _ _ _ _ hW.1 (by omega) HH.out (by omega) (by omega)).mono ?_
  rintro e u6 ⟨rfl,hb6⟩
  replace f0:=zam hb6 q0 f0
  replace f1:=zam hb6 q1 f1
  replace g0:=zab hb6 g0;replace g1:=zab hb6 g1;replace q0:=zab hb6 q0;replace q1:=zab hb6 q1;replace s0:=zab hb6 s0;replace s1:=zab hb6 s1
  have hz6:=hb6.size
  have hB6:=zaj hB5 (by omega) hb6
  clear hb6 hB5
  rw[HB.out]
  cases b
  ·go_wp2
   refine bodyPost_ret (v:=zby (0,0,false)) (by simp[results,Tryz.results132,go_sem,q0,q1,zby]) rfl ⟨by simp,?_⟩
   exact(hB6.setCell (p:=⟨w.heap.size+1,0,none⟩) (by simp) _).setCell (p:=⟨w.heap.size+1,1,none⟩) (by simp) _
  ·go_wp2
   refine bodyPost_ret (v:=zby (m+c2,0,true)) (by simp[results,Tryz.results132,go_sem,q0,q1,zby]) rfl ⟨by simp,?_⟩
   exact(hB6.setCell (p:=⟨w.heap.size+1,0,none⟩) (by simp) _).setCell (p:=⟨w.heap.size+1,1,none⟩) (by simp) _
theorem zs8(r c r2 c2:Int)(hr:0<=r/\r<=100)(hc:0<=c/\c<=100)(er:r+zbg 1=r2)(ec:c+zbx 1=c2)(w:World) :
  Calls (SqG.prog aLt) 158 #[.agg #[.int .i64 r,.int .i64 c]] w fun e w'=>e=.returned (.agg #[.int .i64 r2,.int .i64 c2])/\Below w.heap.size w w':=by
 rw[<- er,<- ec]
 exact zmp r c hr hc w
theorem znD(W H:Nat)(a:Option Addr)(cap:Nat)(cs:List (Int × Int))(w:World)(h:zak w a cs)(hok:okG (W:Int) cs=true)(hW:1<=W/\W<=5)(hH:cs.length / W=H)(hn:cs.length<=25)(x r c r2 c2 m y:Int)(hx:0<=x/\x<cs.length)(eq1:x / (W:Int)=r)(eq2:x % (W:Int)=c)(hr:0<=r/\r<=24)(hc:0<=c/\c<=4)(er:r+zbg 1=r2)(ec:c+zbx 1=c2)(hr2:-1<=r2/\r2<=25)(hc2:-1<=c2/\c2<=5)(em:r2 * (W:Int)=m)(hm:-5<=m/\m<=125)(b:Bool)(hb:inG r2 c2 W H=b) :
  Calls (SqG.prog aLt) 132 #[.agg #[.int .i64 (W:Int),.slice a cs.length cap],.int .i64 x,.int .i64 1] w fun e w'=>e=.returned (zby (if b then (m+c2,1,true) else (0,0,false)))/\Below w.heap.size w w':=by
 have HH:Hid (cs.length / W=H):=hH
 have HR:Hid (r+zbg 1=r2):=er
 have HC:Hid (c+zbx 1=c2):=ec
 have HB:Hid (inG r2 c2 W H=b):=hb
 have hp:inP x cs.length=true:=by simp[inP];omega
 have hi:inB 1 0 3=true:=rfl
 have w1:IntKind.i64.wrap (r2 * (W:Int))=m:=by rw[em];exact IntWalk.i64_in _ (by omega)
 have hne:(1:Int)<=(W:Int):=by omega
 have x0:0<=x:=hx.1
 have x1:x<=24:=by omega
 clear hH er ec em hb
 have hz:((W:Int) == 0)=false:=by simp;omega
 have hne0:¬ (W:Int)=0:=by omega
 have hneN:¬ W=0:=by omega
 have hzN:(W == 0)=false:=by simp;omega
 have e6:x.tdiv (W:Int)=r:=by rw[<- eq1];exact Int.tdiv_eq_ediv_of_nonneg (by omega)
 have e7:x.tmod (W:Int)=c:=by rw[<- eq2];exact Int.tmod_eq_emod_of_nonneg (by omega)
 have wr:IntKind.i64.wrap r=r:=IntWalk.i64_in _ (by omega)
 have wcc:IntKind.i64.wrap c=c:=IntWalk.i64_in _ (by omega)
 have hix:∀ w:World,Sem.run (SqG.prog aLt) (Instr.index 220 (.agg #[.func (.func 157) #[] #[],.func (.func 158) #[] #[],.func (.func 159) #[] #[],.func (.func 160) #[] #[]]) (.int .i64 1)) w=.ok (.func (.func 158) #[] #[]) w:=fun w=>by simp[Instr.index,run_underlying SqG.underlying220,go_sem]
 go_enter SqG.func132,Tryz.ntmps132
 go_wp2_with fail
 refine(zaw _ _ _ cs _ (h.below bel) (by omega)).mono ?_
 rintro e u1 ⟨rfl,hb1⟩
 have g0:u1.cell? ⟨w.heap.size,0,none⟩=some (.int .i64 (W:Int)):=zab hb1 (by simp[go_sem])
 have g1:u1.cell? ⟨w.heap.size,1,none⟩=some (.slice a cs.length cap):=zab hb1 (by simp[go_sem])
 have q0:u1.cell? ⟨w.heap.size+1,0,none⟩=some (.int .i64 0):=zab hb1 (by simp[go_sem])
 have q1:u1.cell? ⟨w.heap.size+1,1,none⟩=some (.int .i64 0):=zab hb1 (by simp[go_sem])
 have f0:u1.frozen? ⟨w.heap.size+1,0,none⟩=false:=zam hb1 (v:=.int .i64 0) (by simp[go_sem]) (by simp[go_sem])
 have f1:u1.frozen? ⟨w.heap.size+1,1,none⟩=false:=zam hb1 (v:=.int .i64 0) (by simp[go_sem]) (by simp[go_sem])
 have hz1:w.heap.size+2<=u1.heap.size:=by have:=hb1.size;simp at this;omega
 have hB1:Below w.heap.size w u1:=zaj bel (by simp;omega) hb1
 clear hb1
 go_wp2_with fail
 refine(zb3 _ _ _ _ _ (by omega) _).mono ?_
 rintro e u2 ⟨rfl,hb2⟩
 replace f0:=zam hb2 q0 f0
 replace f1:=zam hb2 q1 f1
 replace g0:=zab hb2 g0;replace g1:=zab hb2 g1;replace q0:=zab hb2 q0;replace q1:=zab hb2 q1
 have hz2:=hb2.size
 have hB2:=zaj hB1 (by omega) hb2
 clear hb2 hB1
 go_wp2_with fail
 refine(zbp _ _).mono ?_
 rintro e u3 ⟨rfl,rfl⟩
 go_wp2_with fail
 refine(zep _).mono ?_
 rintro e u4 ⟨rfl,hb4⟩
 replace f0:=zam hb4 q0 f0
 replace f1:=zam hb4 q1 f1
 replace g0:=zab hb4 g0;replace g1:=zab hb4 g1;replace q0:=zab hb4 q0;replace q1:=zab hb4 q1
 have hz4:=hb4.size
 have hB4:=zaj hB2 (by omega) hb4
 clear hb4 hB2
 have hbU:Below u4.heap.size u4 (u4.alloc (.cells #[.int .i64 0,.int .i64 0] 223)):=bel
 have nv1:w.heap.size≠u4.heap.size:=by omega
 go_wp2
 go_cut [9] (fun s9 wc=>∃ blk:Nat,s9=.pointer (some ⟨blk,0,none⟩)/\zgF u4 wc blk r2 c2)
 case first =>
  go_region_held3 (fun w'=>w'.cell? ⟨w.heap.size,0,none⟩=some (.int .i64 (W:Int)))
   (first
    | with_reducible exact zab hb5 g0
    | with_reducible exact zab hbU g0
    | with_reducible exact zab hb5V g0
    | with_reducible exact zo6 nv1 (zo6 nv1 (zab hb5 g0))
    | go_keep)
   (first
    | (go_at_call 158;refine(zs8 r c r2 c2 (by omega) (by omega) HR.out HC.out _).mono ?_;rintro e wa ⟨rfl,hb5'⟩;have hb5:Below u4.heap.size u4 wa:=(by first|with_reducible exact hb5'|with_reducible exact zbZ hb5');have hb5V:Below u4.heap.size u4 (wa.alloc (.cells #[.int .i64 r2,.int .i64 c2] 223)):=zaj hb5 hb5.size ((Below.refl _ _).alloc (Nat.le_refl _) _))
    | (go_at_call 158;refine(zs8 r c r2 c2 (by omega) (by omega) HR.out HC.out _).mono ?_;rintro e wa ⟨rfl,hb5'⟩;have hb5:Below u4.heap.size u4 wa:=(by first|with_reducible exact zaj hbU hbU.size hb5'|with_reducible exact zaj hbU hbU.size (zbZ hb5'));have z0:wa.cell? ⟨u4.heap.size,0,none⟩=some (.int .i64 0):=zab hb5' (by simp[go_sem]);have z1:wa.cell? ⟨u4.heap.size,1,none⟩=some (.int .i64 0):=zab hb5' (by simp[go_sem]);have zf0:wa.frozen? ⟨u4.heap.size,0,none⟩=false:=zam hb5' (v:=.int .i64 0) (by simp[go_sem]) (by simp[go_sem]);have zf1:wa.frozen? ⟨u4.heap.size,1,none⟩=false:=zam hb5' (v:=.int .i64 0) (by simp[go_sem]) (by simp[go_sem])))
  ·have hbox:=zfk hb5 r2 c2
   go_wp2_with fail
   go_meet
   case rel=>exact⟨_,rfl,hbox⟩
  ·have hbox:=zfl hb5 (Nat.le_refl _) z0 z1 r2 c2
   go_wp2_with fail
   go_meet
   case rel=>exact⟨_,rfl,hbox⟩
 case rest =>
  obtain⟨blk,rfl,hblk,s0,s1,hb5⟩:=hcut
  replace f0:=zam hb5 q0 f0
  replace f1:=zam hb5 q1 f1
  replace g0:=zab hb5 g0;replace g1:=zab hb5 g1;replace q0:=zab hb5 q0;replace q1:=zab hb5 q1
  have hz5:=hb5.size
  have hB5:=zaj hB4 (by omega) hb5
  clear hb5 hB4 hbU nv1
  go_wp2_with fail
  refine(zfa r2 c2 W H _ _ _ _ hW.1 (by omega) HH.out (by omega) (by omega)).mono ?_
  rintro e u6 ⟨rfl,hb6⟩
  replace f0:=zam hb6 q0 f0
  replace f1:=zam hb6 q1 f1
  replace g0:=zab hb6 g0;replace g1:=zab hb6 g1;replace q0:=zab hb6 q0;replace q1:=zab hb6 q1;replace s0:=zab hb6 s0;replace s1:=zab hb6 s1
  have hz6:=hb6.size
  have hB6:=zaj hB5 (by omega) hb6
  clear hb6 hB5
  rw[HB.out]
  cases b
  ·go_wp2
   refine bodyPost_ret (v:=zby (0,0,false)) (by simp[results,Tryz.results132,go_sem,q0,q1,zby]) rfl ⟨by simp,?_⟩
   exact(hB6.setCell (p:=⟨w.heap.size+1,0,none⟩) (by simp) _).setCell (p:=⟨w.heap.size+1,1,none⟩) (by simp) _
  ·go_wp2
   refine bodyPost_ret (v:=zby (m+c2,1,true)) (by simp[results,Tryz.results132,go_sem,q0,q1,zby]) rfl ⟨by simp,?_⟩
   exact(hB6.setCell (p:=⟨w.heap.size+1,0,none⟩) (by simp) _).setCell (p:=⟨w.heap.size+1,1,none⟩) (by simp) _
