/- Part. -/
import Derived.Laws.EntriesVeiled
import Derived.BigQuiet
import Derived.Deep.DeepCutAuto
import Derived.Test.YtefakaeblcafmaaGreatNAl
set_option maxHeartbeats 8000000
set_option maxRecDepth 100000
set_option linter.unusedVariables false
namespace Go.Proofs.YtefakaeblcafmaaGreat
variable{d wd x:Int}{cs:List (Int × Int)}{H W:Nat}{w0 wa:World}
open Tryz
namespace Sp
variable{aLt:Nat->Func->Func}
open Go.RowKit
def zbF(d:Int):Int:=if d=0 then -1 else if d=2 then 1 else 0
def zb4(d:Int):Int:=if d=1 then 1 else if d=3 then -1 else 0
def inG(r c W H:Int):Bool:=decide (0<=r/\r<H/\0<=c/\c<W)
theorem zrl(r c:Int)(hr:0<=r/\r<=100)(hc:0<=c/\c<=100)(w:World) :
  Calls (SqG.prog aLt) 113 #[.agg #[.int .i64 r,.int .i64 c]] w fun e w'=>e=.returned (.agg #[.int .i64 (r+zbF 0),.int .i64 (c+zb4 0)])/\Below w.heap.size w w':=by
 obtain⟨r2,er⟩:∃ r2,r+zbF 0=r2:=⟨_,rfl⟩
 obtain⟨c2,ec⟩:∃ c2,c+zb4 0=c2:=⟨_,rfl⟩
 rw[er,ec]
 simp[zbF] at er
 simp[zb4] at ec
 subst er ec
 go_enter (zfx func113),ntmps113
 go_wp2
 refine bodyPost_ret (v:=.agg #[.int .i64 (r+-1),.int .i64 c]) (by simp[results,results113,go_sem,Int.sub_eq_add_neg]) rfl ⟨rfl,?_⟩
 exact bel
theorem zlY(r c:Int)(hr:0<=r/\r<=100)(hc:0<=c/\c<=100)(w:World) :
  Calls (SqG.prog aLt) 114 #[.agg #[.int .i64 r,.int .i64 c]] w fun e w'=>e=.returned (.agg #[.int .i64 (r+zbF 1),.int .i64 (c+zb4 1)])/\Below w.heap.size w w':=by
 obtain⟨r2,er⟩:∃ r2,r+zbF 1=r2:=⟨_,rfl⟩
 obtain⟨c2,ec⟩:∃ c2,c+zb4 1=c2:=⟨_,rfl⟩
 rw[er,ec]
 simp[zbF] at er
 simp[zb4] at ec
 subst er ec
 go_enter (zfx func114),ntmps114
 go_wp2
 refine bodyPost_ret (v:=.agg #[.int .i64 r,.int .i64 (c+1)]) (by simp[results,results114,go_sem]) rfl ⟨rfl,?_⟩
 exact bel
theorem zn2(r c:Int)(hr:0<=r/\r<=100)(hc:0<=c/\c<=100)(w:World) :
  Calls (SqG.prog aLt) 115 #[.agg #[.int .i64 r,.int .i64 c]] w fun e w'=>e=.returned (.agg #[.int .i64 (r+zbF 2),.int .i64 (c+zb4 2)])/\Below w.heap.size w w':=by
 obtain⟨r2,er⟩:∃ r2,r+zbF 2=r2:=⟨_,rfl⟩
 obtain⟨c2,ec⟩:∃ c2,c+zb4 2=c2:=⟨_,rfl⟩
 rw[er,ec]
 simp[zbF] at er
 simp[zb4] at ec
 subst er ec
 go_enter (zfx func115),ntmps115
 go_wp2
 refine bodyPost_ret (v:=.agg #[.int .i64 (r+1),.int .i64 c]) (by simp[results,results115,go_sem]) rfl ⟨rfl,?_⟩
 exact bel
theorem zn3(r c:Int)(hr:0<=r/\r<=100)(hc:0<=c/\c<=100)(w:World) :
  Calls (SqG.prog aLt) 116 #[.agg #[.int .i64 r,.int .i64 c]] w fun e w'=>e=.returned (.agg #[.int .i64 (r+zbF 3),.int .i64 (c+zb4 3)])/\Below w.heap.size w w':=by
 obtain⟨r2,er⟩:∃ r2,r+zbF 3=r2:=⟨_,rfl⟩
 obtain⟨c2,ec⟩:∃ c2,c+zb4 3=c2:=⟨_,rfl⟩
 rw[er,ec]
 simp[zbF] at er
 simp[zb4] at ec
 subst er ec
 go_enter (zfx func116),ntmps116
 go_wp2
 refine bodyPost_ret (v:=.agg #[.int .i64 r,.int .i64 (c+-1)]) (by simp[results,results116,go_sem,Int.sub_eq_add_neg]) rfl ⟨rfl,?_⟩
 exact bel
theorem zoi(w:World) :
  Calls (SqG.prog aLt) 78 #[] w fun e w'=>e=.returned (.agg #[.func (.func 113) #[] #[],.func (.func 114) #[] #[],.func (.func 115) #[] #[],.func (.func 116) #[] #[]])/\Below w.heap.size w w':=by
 go_enter (zfx func78),ntmps78
 go_wp2
 refine bodyPost_ret (v:=.agg #[.func (.func 113) #[] #[],.func (.func 114) #[] #[],.func (.func 115) #[] #[],.func (.func 116) #[] #[]]) (by simp[results,results78,go_sem]) rfl ⟨rfl,?_⟩
 exact bel
theorem zph(r c:Int)(W H:Nat)(a:Option Addr)(n cap:Nat)(w:World)(hW:1<=W)(hn:n<=1048576)(hH:n / W=H)(hr:-1<=r/\r<=101)(hc:-1<=c/\c<=101) :
  Calls (SqG.prog aLt) 79 #[.agg #[.int .i64 r,.int .i64 c],.agg #[.int .i64 (W:Int),.slice a n cap]] w fun e w'=>e=.returned (.bool (inG r c W H))/\Below w.heap.size w w':=by
 have HH:Hid (n / W=H):=hH
 clear hH
 by_cases g0:r<0
 ·have hv:inG r c W H=false:=by simp[inG];omega
  have f1:decide (0<=r)=false:=ql
  rw[hv]
  clear hv g0
  go_enter (zfx func79),ntmps79
  go_wp2
  go_quiet (fail)
  go_wp2
  go_ret
  exact⟨rfl,(fun h=>⟨h.os,h.tape,h.output,h.size,h.block⟩:Below w.heap.size w ((w.alloc (.cells #[.int .i64 r,.int .i64 c] 137)).alloc (.cells #[.int .i64 (W:Int),.slice a n cap] 25))->_) bel⟩
 ·skip
  by_cases g1:(H:Int)<=r
  ·have hv:inG r c W H=false:=by simp[inG];omega
   have f1:decide (0<=r)=true:=ql
   have f2:decide (r<(H:Int))=false:=ql
   rw[hv]
   clear hv g0 g1
   obtain⟨w0,hw0⟩:∃ w0,w0=(w.alloc (.cells #[.int .i64 r,.int .i64 c] 137)).alloc (.cells #[.int .i64 (W:Int),.slice a n cap] 25):=⟨_,rfl⟩
   have hb0:Below w.heap.size w w0:=by rw[hw0];exact bel
   have s0:w0.cell? ⟨w.heap.size,0,none⟩=some (.int .i64 r):=by rw[hw0];simp[go_sem]
   have s1:w0.cell? ⟨w.heap.size,1,none⟩=some (.int .i64 c):=by rw[hw0];simp[go_sem]
   have g0:w0.cell? ⟨w.heap.size+1,0,none⟩=some (.int .i64 (W:Int)):=by rw[hw0];simp[go_sem]
   have g1:w0.cell? ⟨w.heap.size+1,1,none⟩=some (.slice a n cap):=by rw[hw0];simp[go_sem]
   go_enter (zfx func79),ntmps79
   go_wp2
   rw[<- hw0]
   clear hw0
   first
    | (go_region_with
      (first
       | (go_at_call 56;refine(zc1 W H _ _ _ _ hW hn HH.out).mono ?_;rintro e w6 ⟨rfl,hb6'⟩;have hb6:Below w0.heap.size w0 w6:=(by first|with_reducible exact hb6'|with_reducible exact zdU hb6');have s06:=zad hb6 s0;have s16:=zad hb6 s1;have g06:=zad hb6 g0;have g16:=zad hb6 g1)))
    | fail
   all_goals
    have hBf:=zai hb0 hb0.size hb6
    go_wp2
    go_ret
    exact⟨rfl,by first|exact hBf|exact hBf.drew⟩
  ·skip
   by_cases g2:c<0
   ·have hv:inG r c W H=false:=by simp[inG];omega
    have f1:decide (0<=r)=true:=ql
    have f2:decide (r<(H:Int))=true:=ql
    have f3:decide (0<=c)=false:=ql
    rw[hv]
    clear hv g0 g1 g2
    obtain⟨w0,hw0⟩:∃ w0,w0=(w.alloc (.cells #[.int .i64 r,.int .i64 c] 137)).alloc (.cells #[.int .i64 (W:Int),.slice a n cap] 25):=⟨_,rfl⟩
    have hb0:Below w.heap.size w w0:=by rw[hw0];exact bel
    have s0:w0.cell? ⟨w.heap.size,0,none⟩=some (.int .i64 r):=by rw[hw0];simp[go_sem]
    have s1:w0.cell? ⟨w.heap.size,1,none⟩=some (.int .i64 c):=by rw[hw0];simp[go_sem]
    have g0:w0.cell? ⟨w.heap.size+1,0,none⟩=some (.int .i64 (W:Int)):=by rw[hw0];simp[go_sem]
    have g1:w0.cell? ⟨w.heap.size+1,1,none⟩=some (.slice a n cap):=by rw[hw0];simp[go_sem]
    go_enter (zfx func79),ntmps79
    go_wp2
    rw[<- hw0]
    clear hw0
    first
     | (go_region_with
       (first
        | (go_at_call 56;refine(zc1 W H _ _ _ _ hW hn HH.out).mono ?_;rintro e w6 ⟨rfl,hb6'⟩;have hb6:Below w0.heap.size w0 w6:=(by first|with_reducible exact hb6'|with_reducible exact zdU hb6');have s06:=zad hb6 s0;have s16:=zad hb6 s1;have g06:=zad hb6 g0;have g16:=zad hb6 g1)))
     | fail
    all_goals
     have hBf:=zai hb0 hb0.size hb6
     go_wp2
     go_ret
     exact⟨rfl,by first|exact hBf|exact hBf.drew⟩
   ·skip
    by_cases g3:(W:Int)<=c
    ·have hv:inG r c W H=false:=by simp[inG];omega
     have f1:decide (0<=r)=true:=ql
     have f2:decide (r<(H:Int))=true:=ql
     have f3:decide (0<=c)=true:=ql
     have f4:decide (c<(W:Int))=false:=ql
     rw[hv]
     clear hv g0 g1 g2 g3
     obtain⟨w0,hw0⟩:∃ w0,w0=(w.alloc (.cells #[.int .i64 r,.int .i64 c] 137)).alloc (.cells #[.int .i64 (W:Int),.slice a n cap] 25):=⟨_,rfl⟩
     have hb0:Below w.heap.size w w0:=by rw[hw0];exact bel
     have s0:w0.cell? ⟨w.heap.size,0,none⟩=some (.int .i64 r):=by rw[hw0];simp[go_sem]
     have s1:w0.cell? ⟨w.heap.size,1,none⟩=some (.int .i64 c):=by rw[hw0];simp[go_sem]
     have g0:w0.cell? ⟨w.heap.size+1,0,none⟩=some (.int .i64 (W:Int)):=by rw[hw0];simp[go_sem]
     have g1:w0.cell? ⟨w.heap.size+1,1,none⟩=some (.slice a n cap):=by rw[hw0];simp[go_sem]
     go_enter (zfx func79),ntmps79
     go_wp2
     rw[<- hw0]
     clear hw0
     go_region_held3 (fun w'=>w'.cell? ⟨w.heap.size,0,none⟩=some (.int .i64 r)/\w'.cell? ⟨w.heap.size,1,none⟩=some (.int .i64 c)/\w'.cell? ⟨w.heap.size+1,0,none⟩=some (.int .i64 (W:Int))/\w'.cell? ⟨w.heap.size+1,1,none⟩=some (.slice a n cap))
      (first
       | with_reducible exact⟨zad hb6 s0,zad hb6 s1,zad hb6 g0,zad hb6 g1⟩
       | go_keep)
      (first
       | (go_at_call 56;refine(zc1 W H _ _ _ _ hW hn HH.out).mono ?_;rintro e w6 ⟨rfl,hb6'⟩;have hb6:Below w0.heap.size w0 w6:=(by first|with_reducible exact hb6'|with_reducible exact zdU hb6')))
     have hBf:=zai hb0 hb0.size hb6
     go_wp2
     go_ret
     exact⟨rfl,hBf⟩
    ·skip
     have hv:inG r c W H=true:=by simp[inG];omega
     have f1:decide (0<=r)=true:=ql
     have f2:decide (r<(H:Int))=true:=ql
     have f3:decide (0<=c)=true:=ql
     have f4:decide (c<(W:Int))=true:=ql
     rw[hv]
     clear hv g0 g1 g2 g3
     obtain⟨w0,hw0⟩:∃ w0,w0=(w.alloc (.cells #[.int .i64 r,.int .i64 c] 137)).alloc (.cells #[.int .i64 (W:Int),.slice a n cap] 25):=⟨_,rfl⟩
     have hb0:Below w.heap.size w w0:=by rw[hw0];exact bel
     have s0:w0.cell? ⟨w.heap.size,0,none⟩=some (.int .i64 r):=by rw[hw0];simp[go_sem]
     have s1:w0.cell? ⟨w.heap.size,1,none⟩=some (.int .i64 c):=by rw[hw0];simp[go_sem]
     have g0:w0.cell? ⟨w.heap.size+1,0,none⟩=some (.int .i64 (W:Int)):=by rw[hw0];simp[go_sem]
     have g1:w0.cell? ⟨w.heap.size+1,1,none⟩=some (.slice a n cap):=by rw[hw0];simp[go_sem]
     go_enter (zfx func79),ntmps79
     go_wp2
     rw[<- hw0]
     clear hw0
     go_region_held3 (fun w'=>w'.cell? ⟨w.heap.size,0,none⟩=some (.int .i64 r)/\w'.cell? ⟨w.heap.size,1,none⟩=some (.int .i64 c)/\w'.cell? ⟨w.heap.size+1,0,none⟩=some (.int .i64 (W:Int))/\w'.cell? ⟨w.heap.size+1,1,none⟩=some (.slice a n cap))
      (first
       | with_reducible exact⟨zad hb6 s0,zad hb6 s1,zad hb6 g0,zad hb6 g1⟩
       | go_keep)
      (first
       | (go_at_call 56;refine(zc1 W H _ _ _ _ hW hn HH.out).mono ?_;rintro e w6 ⟨rfl,hb6'⟩;have hb6:Below w0.heap.size w0 w6:=(by first|with_reducible exact hb6'|with_reducible exact zdU hb6')))
     have hBf:=zai hb0 hb0.size hb6
     go_wp2
     go_ret
     exact⟨rfl,hBf⟩
def zbH(wd:Int)(cs:List (Int × Int))(x d:Int):Int × Int × Bool :=
 if okG wd cs=true/\(0<=x/\x<cs.length)/\(0<=d/\d<=3)/\inG (x / wd+zbF d) (x % wd+zb4 d) wd ((cs.length:Int) / wd)=true then ((x / wd+zbF d) * wd+(x % wd+zb4 d),d,true) else (0,0,false)
def zgk(p:Int × Int × Bool):Value:=.tuple #[.agg #[.int .i64 p.1,.int .i64 p.2.1],.bool p.2.2]
theorem zqG(h:okG wd cs=true):∃ W H:Nat,wd=(W:Int)/\1<=W/\W<=5/\1<=H/\H<=5/\cs.length=W * H/\cs.length / W=H/\(cs.length:Int) / (W:Int)=(H:Int)/\cs.length<=25:=by
 have hs:zb0 wd cs.length=true:=by unfold okG at h;simp only[Bool.and_eq_true] at h;exact h.1
 simp only[zb0,decide_eq_true_eq] at hs
 obtain⟨h1,h2,h3,h4,h5⟩:=hs
 obtain⟨W,rfl⟩:∃ W:Nat,wd=(W:Int):=⟨wd.toNat,qg⟩
 obtain⟨H,eH⟩:∃ H:Nat,(cs.length:Int) / (W:Int)=(H:Int):=⟨((cs.length:Int) / (W:Int)).toNat,qg⟩
 rw[eH] at h4 h5
 have e2:(cs.length:Int)=(W:Int) * (H:Int):=by
  have:=Int.mul_ediv_add_emod (cs.length:Int) (W:Int)
  rw[eH,h3] at this
  omega
 have e3:cs.length=W * H:=by exact_mod_cast e2
 refine⟨W,H,rfl,qg,qg,qg,qg,e3,?_,eH,?_⟩
 ·rw[e3];exact Nat.mul_div_cancel_left H qg
 ·rw[e3];exact Nat.le_trans (Nat.mul_le_mul (show W<=5 by omega) (show H<=5 by omega)) qg
def zmv(w0 wc:World)(blk:Nat)(r c:Int):Prop:=w0.heap.size<=blk/\wc.cell? ⟨blk,0,none⟩=some (.int .i64 r)/\wc.cell? ⟨blk,1,none⟩=some (.int .i64 c)/\Below w0.heap.size w0 wc
theorem zpQ(h:Below w0.heap.size w0 wa)(r c:Int):zmv w0 (wa.alloc (.cells #[.int .i64 r,.int .i64 c] 137)) wa.heap.size r c :=
 ⟨h.size,qj,qj,zai h h.size ((Below.refl _ _).alloc (Nat.le_refl _) _)⟩
theorem zpR{blk:Nat}{u0 u1:Value}(h:Below w0.heap.size w0 wa)(h0:w0.heap.size<=blk)(z0:wa.cell? ⟨blk,0,none⟩=some u0)(z1:wa.cell? ⟨blk,1,none⟩=some u1)(r c:Int) :
  zmv w0 ((wa.setCell ⟨blk,0,none⟩ (.int .i64 r)).setCell ⟨blk,1,none⟩ (.int .i64 c)) blk r c:=by
 refine⟨h0,?_,?_,(h.setCell (p:=⟨blk,0,none⟩) h0 _).setCell (p:=⟨blk,1,none⟩) h0 _⟩
 ·rw[World.cell?_setCell_other _ _ _ _ qk]
  exact World.cell?_setCell_same _ _ _ z0
 ·exact World.cell?_setCell_same _ _ _ (by rw[World.cell?_setCell_other _ _ _ _ qk];exact z1)
theorem znH(W r c:Int)(hc:0<=c/\c<W):(r * W+c) / W=r/\(r * W+c) % W=c :=
 (Int.ediv_emod_unique (show (0:Int)<W by omega)).2 ⟨by rw[Int.mul_comm W r];omega,hc.1,hc.2⟩
theorem zkD(W H r c:Int)(hr:0<=r/\r<H)(hc:0<=c/\c<W):0<=r * W+c/\r * W+c<W * H:=by
 have h1:0<=r * W:=Int.mul_nonneg hr.1 qg
 have h2:(r+1) * W<=H * W:=Int.mul_le_mul_of_nonneg_right qg qg
 rw[Int.add_mul,Int.one_mul,Int.mul_comm H W] at h2
 omega
structure Shape(wd:Int)(cs:List (Int × Int))(W H:Int):Prop where
 ok:okG wd cs=true
 ew:wd=W
 hW:1<=W/\W<=5
 hH:1<=H/\H<=5
 el:(cs.length:Int)=W * H
 ed:(cs.length:Int) / wd=H
theorem zpM(h:okG wd cs=true):∃ W H,Shape wd cs W H:=by
 obtain⟨W,H,ew,h1,h2,h3,h4,el,hH,hHI,hn⟩:=zqG h
 exact⟨W,H,h,ew,qg,qg,by exact_mod_cast el,by rw[ew];exact hHI⟩
theorem zpP{W H:Int}(S:Shape wd cs W H)(hx:0<=x/\x<cs.length):∃ r c,x=r * W+c/\(0<=r/\r<H)/\(0<=c/\c<W):=by
 have hW:=S.hW
 have e:=Int.mul_ediv_add_emod x W
 refine⟨x / W,x % W,by rw[Int.mul_comm];omega,⟨Int.ediv_nonneg hx.1 qg,Int.ediv_lt_of_lt_mul qg ?_⟩,Int.emod_nonneg x qg,Int.emod_lt_of_pos x qg⟩
 rw[Int.mul_comm,<- S.el]
 exact hx.2
theorem znJ{W H:Int}(S:Shape wd cs W H)(r c d:Int)(hr:0<=r/\r<H)(hc:0<=c/\c<W)(hd:0<=d/\d<=3) :
  zbH wd cs (r * W+c) d=if inG (r+zbF d) (c+zb4 d) W H=true then ((r+zbF d) * W+(c+zb4 d),d,true) else (0,0,false):=by
 obtain⟨q1,q2⟩:=znH W r c hc
 have q3:=zkD W H r c hr hc
 unfold zbH
 rw[S.ed,S.ew,q1,q2]
 rw[S.el]
 have ok:=S.ok
 rw[S.ew] at ok
 by_cases k:inG (r+zbF d) (c+zb4 d) W H=true
 ·rw[if_pos ⟨ok,q3,hd,k⟩,if_pos k]
 ·rw[if_neg (fun q=>k q.2.2.2),if_neg k]
theorem zix{x2 d2:Int}(h:zbH wd cs x d=(x2,d2,true)):okG wd cs=true/\(0<=x/\x<(cs.length:Int))/\(0<=d/\d<=3)/\d2=d:=by
 unfold zbH at h
 split at h
 ·next k=>simp only[Prod.mk.injEq] at h;exact⟨k.1,k.2.1,k.2.2.1,h.2.1.symm⟩
 ·simp at h
def zsb(d W:Int):Int:=if d=0 then -W else if d=1 then 1 else if d=2 then W else -1
theorem zkF{x2 d2:Int}(h:zbH wd cs x d=(x2,d2,true)) :
  d2=d/\(0<=d/\d<=3)/\(0<=x/\x<=24)/\(0<=x2/\x2<=24)/\(1<=wd/\wd<=5)/\zbH wd cs x2 ((d+2) % 4)=(x,(d+2) % 4,true)/\x+zsb d wd=x2:=by
 obtain⟨hok,hx,hd,e2⟩:=zix h
 obtain⟨W,H,S⟩:=zpM hok
 obtain⟨r,c,ex,hr,hc⟩:=zpP S hx
 have hW:=S.hW
 have hH:=S.hH
 have hl:(cs.length:Int)<=25:=by rw[S.el];exact Int.le_trans (Int.mul_le_mul hW.2 hH.2 qg qg) qg
 subst e2
 rw[ex,znJ S r c d2 hr hc hd] at h
 split at h
 ·next k =>
  simp only[inG,decide_eq_true_eq] at k
  simp only[Prod.mk.injEq,and_true] at h
  have k1:0<=r+zbF d2/\r+zbF d2<H:=⟨k.1,k.2.1⟩
  have k2:0<=c+zb4 d2/\c+zb4 d2<W:=k.2.2
  have q3:=zkD W H _ _ k1 k2
  rw[h,<- S.el] at q3
  have hd4:0<=(d2+2) % 4/\(d2+2) % 4<=3:=qg
  refine⟨rfl,hd,qg,qg,by have:=S.ew;omega,?_,?_⟩
  ·rw[<- h,znJ S _ _ _ k1 k2 hd4]
   have e1:r+zbF d2+zbF ((d2+2) % 4)=r:=by
    rcases (show d2=0\/d2=1\/d2=2\/d2=3 by omega) with rfl|rfl|rfl|rfl <;> simp[zbF] <;> omega
   have e2:c+zb4 d2+zb4 ((d2+2) % 4)=c:=by
    rcases (show d2=0\/d2=1\/d2=2\/d2=3 by omega) with rfl|rfl|rfl|rfl <;> simp[zb4] <;> omega
   rw[e1,e2,if_pos (by simp[inG];omega),<- ex]
  ·rw[<- h,ex,S.ew]
   rcases (show d2=0\/d2=1\/d2=2\/d2=3 by omega) with rfl|rfl|rfl|rfl <;> simp[zbF,zb4,zsb,Int.add_mul] <;> omega
 ·simp at h
theorem zna{f:Nat}(hd:inB d 0 3=true)(hcf:∀(x:Array Value) w,Sem.run (SqG.prog aLt) (callFunc f x) w=.ok (.enter f x) w)(hix:∀ w:World,Sem.run (SqG.prog aLt) (Instr.index 134 (.agg #[.func (.func 113) #[] #[],.func (.func 114) #[] #[],.func (.func 115) #[] #[],.func (.func 116) #[] #[]]) (.int .i64 d)) w=.ok (.func (.func f) #[] #[]) w)(W H:Nat)(a:Option Addr)(cap:Nat)(cs:List (Int × Int))(w:World)(h:zaf w a cs)(hok:okG (W:Int) cs=true)(hW:1<=W/\W<=5)(hH:cs.length / W=H)(hn:cs.length<=25)(x r c r2 c2 m y:Int)(hx:0<=x/\x<cs.length)(eq1:x / (W:Int)=r)(eq2:x % (W:Int)=c)(hr:0<=r/\r<=24)(hc:0<=c/\c<=4)(hr2:-1<=r2/\r2<=25)(hc2:-1<=c2/\c2<=5)(em:r2 * (W:Int)=m)(hm:-5<=m/\m<=125)(hmv:∀ w,Calls (SqG.prog aLt) f #[.agg #[.int .i64 r,.int .i64 c]] w fun e w'=>e=.returned (.agg #[.int .i64 r2,.int .i64 c2])/\Below w.heap.size w w')(b:Bool)(hb:inG r2 c2 W H=b) :
  Calls (SqG.prog aLt) 52 #[.agg #[.int .i64 (W:Int),.slice a cs.length cap],.int .i64 x,.int .i64 d] w fun e w'=>e=.returned (zgk (if b then (m+c2,d,true) else (0,0,false)))/\Below w.heap.size w w':=by
 have HH:Hid (cs.length / W=H):=hH
 have HM:Hid (∀ w,Calls (SqG.prog aLt) f #[.agg #[.int .i64 r,.int .i64 c]] w fun e w'=>e=.returned (.agg #[.int .i64 r2,.int .i64 c2])/\Below w.heap.size w w'):=hmv
 have HB:Hid (inG r2 c2 W H=b):=hb
 have hp:inP x cs.length=true:=by simp[inP];omega
 have w1:IntKind.i64.wrap (r2 * (W:Int))=m:=by rw[em];exact IntWalk.i64_in _ qg
 have hne:(1:Int)<=(W:Int):=qg
 have x0:0<=x:=hx.1
 have x1:x<=24:=qg
 clear hH em hb hmv
 have hz:((W:Int) == 0)=false:=ql
 have hne0:¬ (W:Int)=0:=qg
 have hneN:¬ W=0:=qg
 have hzN:(W == 0)=false:=ql
 have e6:x.tdiv (W:Int)=r:=by rw[<- eq1];exact Int.tdiv_eq_ediv_of_nonneg qg
 have e7:x.tmod (W:Int)=c:=by rw[<- eq2];exact Int.tmod_eq_emod_of_nonneg qg
 have wr:IntKind.i64.wrap r=r:=IntWalk.i64_in _ qg
 have wcc:IntKind.i64.wrap c=c:=IntWalk.i64_in _ qg
 go_enter (zfx func52),ntmps52
 go_wp2_with fail
 refine(zav _ _ _ cs _ (h.below bel) qg).mono ?_
 rintro e u1 ⟨rfl,hb1⟩
 have g0:u1.cell? ⟨w.heap.size,0,none⟩=some (.int .i64 (W:Int)):=zad hb1 qj
 have g1:u1.cell? ⟨w.heap.size,1,none⟩=some (.slice a cs.length cap):=zad hb1 qj
 have q0:u1.cell? ⟨w.heap.size+1,0,none⟩=some (.int .i64 0):=zad hb1 qj
 have q1:u1.cell? ⟨w.heap.size+1,1,none⟩=some (.int .i64 0):=zad hb1 qj
 have f0:u1.frozen? ⟨w.heap.size+1,0,none⟩=false:=zal hb1 (v:=.int .i64 0) qj qj
 have f1:u1.frozen? ⟨w.heap.size+1,1,none⟩=false:=zal hb1 (v:=.int .i64 0) qj qj
 have hz1:w.heap.size+2<=u1.heap.size:=by have:=hb1.size;simp at this;omega
 have hB1:Below w.heap.size w u1:=zai bel ql hb1
 clear hb1
 go_wp2_with fail
 refine(zfJ _ _ _ _ _ qg _).mono ?_
 rintro e u2 ⟨rfl,hb2⟩
 replace f0:=zal hb2 q0 f0
 replace f1:=zal hb2 q1 f1
 replace g0:=zad hb2 g0;replace g1:=zad hb2 g1;replace q0:=zad hb2 q0;replace q1:=zad hb2 q1
 have hz2:=hb2.size
 have hB2:=zai hB1 qg hb2
 clear hb2 hB1
 go_wp2_with fail
 refine(zcl _ _).mono ?_
 rintro e u3 ⟨rfl,rfl⟩
 go_wp2_with fail
 refine(zoi _).mono ?_
 rintro e u4 ⟨rfl,hb4⟩
 replace f0:=zal hb4 q0 f0
 replace f1:=zal hb4 q1 f1
 replace g0:=zad hb4 g0;replace g1:=zad hb4 g1;replace q0:=zad hb4 q0;replace q1:=zad hb4 q1
 have hz4:=hb4.size
 have hB4:=zai hB2 qg hb4
 clear hb4 hB2
 have hbU:Below u4.heap.size u4 (u4.alloc (.cells #[.int .i64 0,.int .i64 0] 137)):=bel
 have nv1:w.heap.size≠u4.heap.size:=qg
 go_wp2
 go_cut [9] (fun s9 wc=>∃ blk:Nat,s9=.pointer (some ⟨blk,0,none⟩)/\zmv u4 wc blk r2 c2)
 case first =>
  go_region_held3 (fun w'=>w'.cell? ⟨w.heap.size,0,none⟩=some (.int .i64 (W:Int)))
   (first
    | with_reducible exact zad hb5 g0
    | with_reducible exact zad hbU g0
    | with_reducible exact zad hb5V g0
    | with_reducible exact zev nv1 (zev nv1 (zad hb5 g0))
    | go_keep)
   (first
    | (with_reducible show Calls _ f _ _ _;refine(HM.out _).mono ?_;rintro e wa ⟨rfl,hb5'⟩;have hb5:Below u4.heap.size u4 wa:=(by first|with_reducible exact hb5'|with_reducible exact zdU hb5');have hb5V:Below u4.heap.size u4 (wa.alloc (.cells #[.int .i64 r2,.int .i64 c2] 137)):=zai hb5 hb5.size ((Below.refl _ _).alloc (Nat.le_refl _) _))
    | (with_reducible show Calls _ f _ _ _;refine(HM.out _).mono ?_;rintro e wa ⟨rfl,hb5'⟩;have hb5:Below u4.heap.size u4 wa:=(by first|with_reducible exact zai hbU hbU.size hb5'|with_reducible exact zai hbU hbU.size (zdU hb5'));have z0:wa.cell? ⟨u4.heap.size,0,none⟩=some (.int .i64 0):=zad hb5' qj;have z1:wa.cell? ⟨u4.heap.size,1,none⟩=some (.int .i64 0):=zad hb5' qj;have zf0:wa.frozen? ⟨u4.heap.size,0,none⟩=false:=zal hb5' (v:=.int .i64 0) qj qj;have zf1:wa.frozen? ⟨u4.heap.size,1,none⟩=false:=zal hb5' (v:=.int .i64 0) qj qj))
  ·have hbox:=zpQ hb5 r2 c2
   go_wp2_with fail
   go_meet
   case rel=>exact⟨_,rfl,hbox⟩
  ·have hbox:=zpR hb5 (Nat.le_refl _) z0 z1 r2 c2
   go_wp2_with fail
   go_meet
   case rel=>exact⟨_,rfl,hbox⟩
 case rest =>
  obtain⟨blk,rfl,hblk,s0,s1,hb5⟩:=hcut
  replace f0:=zal hb5 q0 f0
  replace f1:=zal hb5 q1 f1
  replace g0:=zad hb5 g0;replace g1:=zad hb5 g1;replace q0:=zad hb5 q0;replace q1:=zad hb5 q1
  have hz5:=hb5.size
  have hB5:=zai hB4 qg hb5
  clear hb5 hB4 hbU nv1
  go_wp2_with fail
  refine(zph r2 c2 W H _ _ _ _ hW.1 qg HH.out qg qg).mono ?_
  rintro e u6 ⟨rfl,hb6⟩
  replace f0:=zal hb6 q0 f0
  replace f1:=zal hb6 q1 f1
  replace g0:=zad hb6 g0;replace g1:=zad hb6 g1;replace q0:=zad hb6 q0;replace q1:=zad hb6 q1;replace s0:=zad hb6 s0;replace s1:=zad hb6 s1
  have hz6:=hb6.size
  have hB6:=zai hB5 qg hb6
  clear hb6 hB5
  rw[HB.out]
  cases b
  ·go_wp2
   refine bodyPost_ret (v:=zgk (0,0,false)) (by simp[results,results52,go_sem,q0,q1,zgk]) rfl ⟨qk,?_⟩
   exact(hB6.setCell (p:=⟨w.heap.size+1,0,none⟩) qk _).setCell (p:=⟨w.heap.size+1,1,none⟩) qk _
  ·go_wp2
   refine bodyPost_ret (v:=zgk (m+c2,d,true)) (by simp[results,results52,go_sem,q0,q1,zgk]) rfl ⟨qk,?_⟩
   exact(hB6.setCell (p:=⟨w.heap.size+1,0,none⟩) qk _).setCell (p:=⟨w.heap.size+1,1,none⟩) qk _
def zss(wd:Int)(cs:List (Int × Int))(x d:Int):Prop:=okG wd cs=false\/(okG wd cs=true/\inP x cs.length=false)\/(okG wd cs=true/\inP x cs.length=true/\inB d 0 3=false)
theorem zjl(wd:Int)(a:Option Addr)(cap:Nat)(cs:List (Int × Int))(w:World)(h:zaf w a cs)(hm:cs.length<=1048576)(x d:Int)(hbad:zss wd cs x d) :
  Calls (SqG.prog aLt) 52 #[.agg #[.int .i64 wd,.slice a cs.length cap],.int .i64 x,.int .i64 d] w fun e w'=>e=.returned (zgk (0,0,false))/\Below w.heap.size w w':=by
 go_enter (zfx func52),ntmps52
 go_wp2_with fail
 refine(zav _ _ _ cs _ (h.below bel) qg).mono ?_
 rintro e u1 ⟨rfl,hb1⟩
 have g0:u1.cell? ⟨w.heap.size,0,none⟩=some (.int .i64 wd):=zad hb1 qj
 have g1:u1.cell? ⟨w.heap.size,1,none⟩=some (.slice a cs.length cap):=zad hb1 qj
 have q0:u1.cell? ⟨w.heap.size+1,0,none⟩=some (.int .i64 0):=zad hb1 qj
 have q1:u1.cell? ⟨w.heap.size+1,1,none⟩=some (.int .i64 0):=zad hb1 qj
 have f0:u1.frozen? ⟨w.heap.size+1,0,none⟩=false:=zal hb1 (v:=.int .i64 0) qj qj
 have f1:u1.frozen? ⟨w.heap.size+1,1,none⟩=false:=zal hb1 (v:=.int .i64 0) qj qj
 have hz1:w.heap.size+2<=u1.heap.size:=by have:=hb1.size;simp at this;omega
 have hB1:Below w.heap.size w u1:=zai bel ql hb1
 clear hb1
 rcases hbad with k1|⟨k1,k2⟩|⟨k1,k2,k3⟩
 ·go_wp2
  refine bodyPost_ret (v:=zgk (0,0,false)) (by simp[results,results52,go_sem,q0,q1,zgk]) rfl ⟨qk,?_⟩
  exact(hB1.setCell (p:=⟨w.heap.size+1,0,none⟩) qk _).setCell (p:=⟨w.heap.size+1,1,none⟩) qk _
 all_goals
  go_wp2_with fail
  refine(zfJ _ _ _ _ _ qg _).mono ?_
  rintro e u2 ⟨rfl,hb2⟩
  replace f0:=zal hb2 q0 f0
  replace f1:=zal hb2 q1 f1
  replace g0:=zad hb2 g0;replace g1:=zad hb2 g1;replace q0:=zad hb2 q0;replace q1:=zad hb2 q1
  have hz2:=hb2.size
  have hB2:=zai hB1 qg hb2
  clear hb2 hB1
  go_wp2_with (go_at_call 75;refine(zcl _ _).mono ?_;rintro e w' ⟨rfl,rfl⟩)
  refine bodyPost_ret (v:=zgk (0,0,false)) (by simp[results,results52,go_sem,q0,q1,zgk]) rfl ⟨qk,?_⟩
  exact(hB2.setCell (p:=⟨w.heap.size+1,0,none⟩) qk _).setCell (p:=⟨w.heap.size+1,1,none⟩) qk _
theorem zpE(h:zss wd cs x d):zbH wd cs x d=(0,0,false):=by
 unfold zbH
 rw[if_neg]
 rintro⟨h1,h2,h3,_⟩
 rcases h with k1|⟨k1,k2⟩|⟨k1,k2,k3⟩
 ·rw[h1] at k1;cases k1
 ·simp[inP] at k2;omega
 ·simp[inB] at k3;omega
structure Ray(wd:Int)(cs:List (Int × Int))(x d:Int)(W H:Nat)(r c r2 c2 m:Int)(b:Bool):Prop where
 ew:wd=(W:Int)
 ok:okG wd cs=true
 hW:1<=W/\W<=5
 hH:cs.length / W=H
 hn:cs.length<=25
 hH2:1<=H/\H<=5
 el:cs.length=W * H
 hx:0<=x/\x<cs.length
 hd:0<=d/\d<=3
 eq1:x / (W:Int)=r
 eq2:x % (W:Int)=c
 hr:0<=r/\r<H
 hc:0<=c/\c<W
 er:r+zbF d=r2
 ec:c+zb4 d=c2
 hr2:-1<=r2/\r2<=25
 hc2:-1<=c2/\c2<=5
 em:r2 * (W:Int)=m
 hm:-5<=m/\m<=125
 hb:inG r2 c2 W H=b
 hv:zbH wd cs x d=if b then (m+c2,d,true) else (0,0,false)
theorem zqC(wd:Int)(cs:List (Int × Int))(x d:Int)(hok:okG wd cs=true)(hx:0<=x/\x<cs.length)(hd:0<=d/\d<=3):∃ W H r c r2 c2 m b,Ray wd cs x d W H r c r2 c2 m b:=by
 obtain⟨W,H,ew,h1,h2,h3,h4,el,hH,hHI,hn⟩:=zqG hok
 have hW0:(0:Int)<(W:Int):=qg
 have c0:=Int.emod_nonneg x (show (W:Int)≠0 by omega)
 have c1:=Int.emod_lt_of_pos x hW0
 have r0:0<=x / (W:Int):=Int.ediv_nonneg hx.1 qg
 have r1:x / (W:Int)<(H:Int):=by
  refine Int.ediv_lt_of_lt_mul hW0 ?_
  have:(cs.length:Int)=(W:Int) * (H:Int):=by exact_mod_cast el
  rw[Int.mul_comm]
  omega
 have dr:-1<=zbF d/\zbF d<=1:=by unfold zbF;split <;> (try split) <;> omega
 have dc:-1<=zb4 d/\zb4 d<=1:=by unfold zb4;split <;> (try split) <;> omega
 refine⟨W,H,x / (W:Int),x % (W:Int),_,_,_,_,ew,hok,⟨h1,h2⟩,hH,hn,⟨h3,h4⟩,el,hx,hd,rfl,rfl,⟨r0,r1⟩,⟨c0,c1⟩,rfl,rfl,qg,qg,rfl,?_,rfl,?_⟩
 ·have m1:(-1:Int) * 5<=(x / (W:Int)+zbF d) * (W:Int):=by
   rcases Int.lt_or_le (x / (W:Int)+zbF d) 0 with k|k
   ·rw[show x / (W:Int)+zbF d=-1 by omega];omega
   ·exact Int.le_trans qg (Int.mul_nonneg k qg)
  have m2:(x / (W:Int)+zbF d) * (W:Int)<=125:=by
   rcases Int.lt_or_le (x / (W:Int)+zbF d) 0 with k|k
   ·rw[show x / (W:Int)+zbF d=-1 by omega];omega
   ·exact Int.le_trans (Int.mul_le_mul (show x / (W:Int)+zbF d<=25 by omega) (show (W:Int)<=5 by omega) qg qg) qg
  omega
 ·unfold zbH
  subst ew
  rw[hHI]
  by_cases k:inG (x / (W:Int)+zbF d) (x % (W:Int)+zb4 d) W H=true
  ·rw[if_pos ⟨hok,hx,hd,k⟩,if_pos k]
  ·rw[if_neg (fun q=>k q.2.2.2),if_neg k]
theorem zq5(wd:Int)(cs:List (Int × Int))(x d:Int):zss wd cs x d\/(okG wd cs=true/\(0<=x/\x<(cs.length:Int))/\(0<=d/\d<=3)):=by
 by_cases k1:okG wd cs=true
 ·by_cases k2:0<=x/\x<(cs.length:Int)
  ·by_cases k3:0<=d/\d<=3
   ·exact Or.inr ⟨k1,k2,k3⟩
   ·exact Or.inl (Or.inr (Or.inr ⟨k1,decide_eq_true k2,decide_eq_false k3⟩))
  ·exact Or.inl (Or.inr (Or.inl ⟨k1,decide_eq_false k2⟩))
 ·exact Or.inl (Or.inl (by simpa using k1))
theorem zfz(wd:Int)(a:Option Addr)(cap:Nat)(cs:List (Int × Int))(w:World)(h:zaf w a cs)(hm:cs.length<=1048576)(x d:Int) :
  Calls (SqG.prog aLt) 52 #[.agg #[.int .i64 wd,.slice a cs.length cap],.int .i64 x,.int .i64 d] w fun e w'=>e=.returned (zgk (zbH wd cs x d))/\Below w.heap.size w w':=by
 rcases zq5 wd cs x d with hb|⟨k1,k2,k3⟩
 ·rw[zpE hb]
  exact zjl wd a cap cs w h hm x d hb
 ·obtain⟨W,H,r,c,r2,c2,m,b,R⟩:=zqC wd cs x d k1 k2 k3
  rw[R.hv]
  obtain rfl:=R.ew
  have one:∀(f:Nat),(∀(x:Array Value) w,Sem.run (SqG.prog aLt) (callFunc f x) w=.ok (.enter f x) w)->(∀ w:World,Sem.run (SqG.prog aLt) (Instr.index 134 (.agg #[.func (.func 113) #[] #[],.func (.func 114) #[] #[],.func (.func 115) #[] #[],.func (.func 116) #[] #[]]) (.int .i64 d)) w=.ok (.func (.func f) #[] #[]) w)->(∀ w,Calls (SqG.prog aLt) f #[.agg #[.int .i64 r,.int .i64 c]] w fun e w'=>e=.returned (.agg #[.int .i64 (r+zbF d),.int .i64 (c+zb4 d)])/\Below w.heap.size w w')->Calls (SqG.prog aLt) 52 #[.agg #[.int .i64 (W:Int),.slice a cs.length cap],.int .i64 x,.int .i64 d] w fun e w'=>e=.returned (zgk (if b then (m+c2,d,true) else (0,0,false)))/\Below w.heap.size w w':=fun f h1 h2 h3 =>
   zna (by simp[inB];omega) h1 h2 W H a cap cs w h R.ok R.hW R.hH R.hn x r c r2 c2 m 0 R.hx R.eq1 R.eq2 (by have:=R.hr;have:=R.hH2;omega) (by have:=R.hc;have:=R.hW;omega) R.hr2 R.hc2 R.em R.hm (by rw[<- R.er,<- R.ec];exact h3) b R.hb
  have hr:0<=r/\r<=100:=by have:=R.hr;have:=R.hH2;omega
  have hc:0<=c/\c<=100:=by have:=R.hc;have:=R.hW;omega
  rcases (show d=0\/d=1\/d=2\/d=3 by omega) with rfl|rfl|rfl|rfl
  ·exact one 113 (fun _ _=>qk) (fun w=>by simp[Instr.index,run_underlying SqG.underlying134,go_sem]) (zrl r c hr hc)
  ·exact one 114 (fun _ _=>qk) (fun w=>by simp[Instr.index,run_underlying SqG.underlying134,go_sem]) (zlY r c hr hc)
  ·exact one 115 (fun _ _=>qk) (fun w=>by simp[Instr.index,run_underlying SqG.underlying134,go_sem]) (zn2 r c hr hc)
  ·exact one 116 (fun _ _=>qk) (fun w=>by simp[Instr.index,run_underlying SqG.underlying134,go_sem]) (zn3 r c hr hc)
abbrev nI(n:Nat):Int:=(n:Int)
theorem zlX:∀ W:Fin 5,∀ H:Fin 5,∀ k:Fin 20,k.val<2 * (W.val+1+(H.val+1)) ->
  (0<=(zds (nI (W.val+1)) (nI (H.val+1)) (nI k.val)).1/\(zds (nI (W.val+1)) (nI (H.val+1)) (nI k.val)).1<nI (W.val+1) * nI (H.val+1)) /\
  inG ((zds (nI (W.val+1)) (nI (H.val+1)) (nI k.val)).1 / nI (W.val+1)+zbF (((zds (nI (W.val+1)) (nI (H.val+1)) (nI k.val)).2+2) % 4)) ((zds (nI (W.val+1)) (nI (H.val+1)) (nI k.val)).1 % nI (W.val+1)+zb4 (((zds (nI (W.val+1)) (nI (H.val+1)) (nI k.val)).2+2) % 4)) (nI (W.val+1)) (nI (H.val+1))=false /\
  ofN (nI (W.val+1)) (nI (H.val+1)) (zds (nI (W.val+1)) (nI (H.val+1)) (nI k.val)).1 (((zds (nI (W.val+1)) (nI (H.val+1)) (nI k.val)).2+2) % 4) (2 * (W.val+1+(H.val+1)))=nI k.val:=by decide +kernel
theorem zls:∀ W:Fin 5,∀ H:Fin 5,∀ x:Fin 25,∀ d:Fin 4,x.val<(W.val+1) * (H.val+1) ->
  if inG (nI x.val / nI (W.val+1)+zbF (nI d.val)) (nI x.val % nI (W.val+1)+zb4 (nI d.val)) (nI (W.val+1)) (nI (H.val+1))=true then ofN (nI (W.val+1)) (nI (H.val+1)) (nI x.val) (nI d.val) (2 * (W.val+1+(H.val+1)))=-1
  else (0<=ofN (nI (W.val+1)) (nI (H.val+1)) (nI x.val) (nI d.val) (2 * (W.val+1+(H.val+1)))/\ofN (nI (W.val+1)) (nI (H.val+1)) (nI x.val) (nI d.val) (2 * (W.val+1+(H.val+1)))<2 * (nI (W.val+1)+nI (H.val+1))) /\
   zds (nI (W.val+1)) (nI (H.val+1)) (ofN (nI (W.val+1)) (nI (H.val+1)) (nI x.val) (nI d.val) (2 * (W.val+1+(H.val+1))))=(nI x.val,(nI d.val+2) % 4):=by decide +kernel
theorem zgL(W H k:Nat)(hW:1<=W/\W<=5)(hH:1<=H/\H<=5)(hk:k<2 * (W+H))(x d:Int)(hs:zds W H k=(x,d)) :
  (0<=x/\x<(W:Int) * (H:Int))/\(0<=d/\d<=3)/\inG (x / (W:Int)+zbF ((d+2) % 4)) (x % (W:Int)+zb4 ((d+2) % 4)) W H=false/\ofN W H x ((d+2) % 4) (2 * (W+H))=(k:Int):=by
 have h:=zlX ⟨W - 1,qg⟩ ⟨H - 1,qg⟩ ⟨k,qg⟩
 simp only[show W - 1+1=W by omega,show H - 1+1=H by omega,nI] at h
 have h2:=h hk
 rw[hs] at h2
 exact⟨h2.1,zkK _ _ _ _ _ hs,h2.2.1,h2.2.2⟩
theorem znZ(W H x d:Nat)(hW:1<=W/\W<=5)(hH:1<=H/\H<=5)(hx:x<W * H)(hd:d<4) :
  (inG ((x:Int) / (W:Int)+zbF (d:Int)) ((x:Int) % (W:Int)+zb4 (d:Int)) W H=true/\ofN W H x d (2 * (W+H))=-1) \/
  (inG ((x:Int) / (W:Int)+zbF (d:Int)) ((x:Int) % (W:Int)+zb4 (d:Int)) W H=false/\∃ k:Nat,k<2 * (W+H)/\ofN W H x d (2 * (W+H))=(k:Int)/\zds W H k=((x:Int),((d:Int)+2) % 4)):=by
 have hx2:x<25:=nll hx (Nat.le_trans (Nat.mul_le_mul hW.2 hH.2) qg)
 have h:=zls ⟨W - 1,qg⟩ ⟨H - 1,qg⟩ ⟨x,hx2⟩ ⟨d,hd⟩
 simp only[show W - 1+1=W by omega,show H - 1+1=H by omega,nI] at h
 have h2:=h hx
 by_cases q:inG ((x:Int) / (W:Int)+zbF (d:Int)) ((x:Int) % (W:Int)+zb4 (d:Int)) W H=true
 ·rw[if_pos q] at h2
  exact Or.inl ⟨q,h2⟩
 ·rw[if_neg q] at h2
  obtain⟨⟨k0,k1⟩,k2⟩:=h2
  obtain⟨k,hk⟩:=Int.eq_ofNat_of_zero_le k0
  rw[hk] at k1 k2
  exact Or.inr ⟨by simpa using q,k,qg,hk,k2⟩
structure Siz(wd:Int)(cs:List (Int × Int))(W H:Nat):Prop where
 ok:okG wd cs=true
 ew:wd=(W:Int)
 hW:1<=W/\W<=5
 hH:1<=H/\H<=5
 el:cs.length=W * H
 hI:(cs.length:Int) / wd=(H:Int)
 em:zbU wd cs=2 * ((W:Int)+(H:Int))
theorem zc3(h:okG wd cs=true):∃ W H,Siz wd cs W H:=by
 obtain⟨W,H,rfl,h1,h2,h3,h4,el,hH,hHI⟩:=zfG wd cs h
 exact⟨W,H,h,rfl,⟨h1,h2⟩,⟨h3,h4⟩,el,hHI,zcw h hHI⟩
theorem zd4(S:Siz wd cs W H)(k:Nat)(hk:k<2 * (W+H)):zbT wd cs (k:Int)=((zds W H k).1,(zds W H k).2,true):=by
 unfold zbT
 rw[if_pos ⟨S.ok,qg,by rw[S.em];omega⟩,S.hI,S.ew]
theorem ze5(S:Siz wd cs W H)(x d:Int)(hx:0<=x/\x<(W:Int) * (H:Int))(hd:0<=d/\d<=3):zcy wd cs x d=ofN W H x d (2 * (W+H)):=by
 unfold zcy
 have e1:(cs.length:Int)=(W:Int) * (H:Int):=by rw[S.el];simp
 rw[if_pos ⟨S.ok,by rw[e1];exact hx,hd⟩,S.em,S.hI,S.ew,show (2 * ((W:Int)+(H:Int))).toNat=2 * (W+H) by omega]
theorem zjF(S:Siz wd cs W H)(x d:Int)(hx:0<=x/\x<(W:Int) * (H:Int))(hd:0<=d/\d<=3) :
  zbH wd cs x d=if inG (x / (W:Int)+zbF d) (x % (W:Int)+zb4 d) W H=true then ((x / (W:Int)+zbF d) * (W:Int)+(x % (W:Int)+zb4 d),d,true) else (0,0,false):=by
 unfold zbH
 have e1:(cs.length:Int)=(W:Int) * (H:Int):=by rw[S.el];simp
 rw[S.hI,S.ew]
 by_cases g:inG (x / (W:Int)+zbF d) (x % (W:Int)+zb4 d) W H=true
 ·rw[if_pos ⟨by rw[<- S.ew];exact S.ok,by rw[e1];exact hx,hd,g⟩,if_pos g]
 ·rw[if_neg (fun q=>g q.2.2.2),if_neg g]
theorem zmD{k:Int}(h:zbT wd cs k=(x,d,true)) :
  (0<=d/\d<=3)/\zbH wd cs x ((d+2) % 4)=(0,0,false)/\zcy wd cs x ((d+2) % 4)=k/\k<zbU wd cs:=by
 unfold zbT at h
 split at h
 ·next c =>
  obtain⟨W,H,S⟩:=zc3 c.1
  have hk:=c.2
  rw[S.em] at hk
  obtain⟨K,rfl⟩:=Int.eq_ofNat_of_zero_le hk.1
  have hs:zds W H K=(x,d):=by
   rw[S.hI,S.ew] at h
   simp only[Prod.mk.injEq] at h
   rw[<- h.1,<- h.2.1]
  obtain⟨hx,hd,hg,ho⟩:=zgL W H K S.hW S.hH qg x d hs
  refine⟨hd,?_,?_,c.2.2⟩
  ·rw[zjF S x _ hx qg,if_neg (by simp[hg])]
  ·rw[ze5 S x _ hx qg];exact ho
 ·simp at h
theorem zpz(hk:okG wd cs=true)(hx:0<=x/\x<(cs.length:Int))(hd:0<=d/\d<=3) :
  (∃ x2 d2,zbH wd cs x d=(x2,d2,true)/\zcy wd cs x d=-1)\/(zbH wd cs x d=(0,0,false)/\zbT wd cs (zcy wd cs x d)=(x,(d+2) % 4,true)):=by
 obtain⟨W,H,S⟩:=zc3 hk
 have e1:(cs.length:Int)=(W:Int) * (H:Int):=by rw[S.el];simp
 rw[e1] at hx
 obtain⟨X,rfl⟩:=Int.eq_ofNat_of_zero_le hx.1
 obtain⟨D,rfl⟩:=Int.eq_ofNat_of_zero_le hd.1
 have hX:X<W * H:=by have:=hx.2;exact_mod_cast this
 rcases znZ W H X D S.hW S.hH hX qg with ⟨g,o⟩|⟨g,k,hk,o,s⟩
 ·left
  exact⟨_,_,by rw[zjF S _ _ hx hd,if_pos g],by rw[ze5 S _ _ hx hd];exact o⟩
 ·right
  refine⟨by rw[zjF S _ _ hx hd,if_neg (by simp[g])],?_⟩
  rw[ze5 S _ _ hx hd,o,zd4 S k hk,s]
theorem zpi(d:Int)(hd:0<=d/\d<=3)(W H:Nat)(a:Option Addr)(n cap:Nat)(w:World)(hW:1<=W/\W<=5)(hH:n / W=H)(hn:n<=25)(hH2:H<=25)(x r c r2 c2 m:Int)(hx:0<=x/\x<=24)(eq1:x / (W:Int)=r)(eq2:x % (W:Int)=c)(hr:0<=r/\r<=24)(hc:0<=c/\c<=4)(er:r+zbF d=r2)(ec:c+zb4 d=c2)(hr2:-1<=r2/\r2<=25)(hc2:-1<=c2/\c2<=5)(em:r2 * (W:Int)=m)(hm:-5<=m/\m<=125)(b:Bool)(hb:inG r2 c2 W H=b) :
  Calls (SqG.prog aLt) 122 #[.agg #[.int .i64 (W:Int),.slice a n cap],.int .i64 x,.int .i64 d] w fun e w'=>e=.returned (zgk (if b then (m+c2,d,true) else (0,0,false)))/\Below w.heap.size w w':=by
 have HH:Hid (n / W=H):=hH
 have hz:((W:Int) == 0)=false:=ql
 have hne0:¬ (W:Int)=0:=qg
 have hneN:¬ W=0:=qg
 have hzN:(W == 0)=false:=ql
 have e6:x.tdiv (W:Int)=r:=by rw[<- eq1];exact Int.tdiv_eq_ediv_of_nonneg qg
 have e7:x.tmod (W:Int)=c:=by rw[<- eq2];exact Int.tmod_eq_emod_of_nonneg qg
 have wr:IntKind.i64.wrap r=r:=IntWalk.i64_in _ qg
 have wcc:IntKind.i64.wrap c=c:=IntWalk.i64_in _ qg
 have w1:IntKind.i64.wrap (r2 * (W:Int))=m:=by rw[em];exact IntWalk.i64_in _ qg
 have hB:Hid (inG r2 c2 W H=b):=hb
 have hne:(1:Int)<=(W:Int):=qg
 have x0:0<=x:=hx.1
 clear hH em hb
 obtain⟨D,hD⟩:∃ D:Int,D=d:=⟨d,rfl⟩
 rcases (show (d=0/\zbF d=-1/\zb4 d=0)\/(d=1/\zbF d=0/\zb4 d=1)\/(d=2/\zbF d=1/\zb4 d=0)\/(d=3/\zbF d=0/\zb4 d=-1) by rcases (show d=0\/d=1\/d=2\/d=3 by omega) with rfl|rfl|rfl|rfl <;> simp[zbF,zb4]) with ⟨rfl,e1,e2⟩|⟨rfl,e1,e2⟩|⟨rfl,e1,e2⟩|⟨rfl,e1,e2⟩
 all_goals
  rw[e1] at er
  rw[e2] at ec
  have w2:=congrArg IntKind.i64.wrap er
  have w3:=congrArg IntKind.i64.wrap ec
  rw[IntWalk.i64_in r2 qg] at w2
  rw[IntWalk.i64_in c2 qg] at w3
  clear e1 e2
  go_enter (zfx func122),ntmps122
  go_wp2
  go_region
  obtain⟨u1,hu1⟩:∃ u1,u1=(((w.alloc (.cells #[.int .i64 (W:Int),.slice a n cap] 25)).alloc (.cells #[.int .i64 0,.int .i64 0] 67)).alloc (.cells #[.int .i64 (-1),.int .i64 0,.int .i64 1,.int .i64 0] 3)).drew:=⟨_,rfl⟩
  have hB1:Below w.heap.size w u1:=by rw[hu1];exact bel
  have hz1:u1.heap.size=w.heap.size+3:=by rw[hu1];simp[World.drew]
  have g0:u1.cell? ⟨w.heap.size,0,none⟩=some (.int .i64 (W:Int)):=by rw[hu1];simp[go_sem]
  have g1:u1.cell? ⟨w.heap.size,1,none⟩=some (.slice a n cap):=by rw[hu1];simp[go_sem]
  have q0:u1.cell? ⟨w.heap.size+1,0,none⟩=some (.int .i64 0):=by rw[hu1];simp[go_sem]
  have q1:u1.cell? ⟨w.heap.size+1,1,none⟩=some (.int .i64 0):=by rw[hu1];simp[go_sem]
  have f0:u1.frozen? ⟨w.heap.size+1,0,none⟩=false:=by rw[hu1];simp[go_sem]
  have f1:u1.frozen? ⟨w.heap.size+1,1,none⟩=false:=by rw[hu1];simp[go_sem]
  rw[<- hu1]
  clear hu1
  go_wp2
  go_region
  obtain⟨u2,hu2⟩:∃ u2,u2=(u1.alloc (.cells #[.int .i64 0,.int .i64 1,.int .i64 0,.int .i64 (-1)] 3)).drew:=⟨_,rfl⟩
  have hb2:Below u1.heap.size u1 u2:=by rw[hu2];exact bel
  rw[<- hu2]
  clear hu2
  replace f0:=zal hb2 q0 f0
  replace f1:=zal hb2 q1 f1
  replace g0:=zad hb2 g0;replace g1:=zad hb2 g1;replace q0:=zad hb2 q0;replace q1:=zad hb2 q1
  have hz2:=hb2.size
  have hB2:=zai hB1 qg hb2
  clear hb2 hB1
  go_wp2_with fail
  refine(zfM W H _ _ _ _ hW.1 qg HH.out).mono ?_
  rintro e u3 ⟨rfl,hb3⟩
  replace f0:=zal hb3 q0 f0
  replace f1:=zal hb3 q1 f1
  replace g0:=zad hb3 g0;replace g1:=zad hb3 g1;replace q0:=zad hb3 q0;replace q1:=zad hb3 q1
  have hz3:=hb3.size
  have hB3:=zai hB2 qg hb3
  clear hb3 hB2
  by_cases p1:inB r2 0 ((H:Int) - 1)=true
  ·by_cases p2:inB c2 0 ((W:Int) - 1)=true
   ·have eb:b=true:=by rw[<- hB.out];simp[inB] at p1 p2;simp[inG];omega
    subst eb
    go_wp2_with (go_at_call 38;refine(zbe _ _ _ _).mono ?_;rintro e w' ⟨rfl,rfl⟩)
    refine bodyPost_ret (v:=zgk (m+c2,D,true)) (by simp[results,results122,go_sem,q0,q1,zgk,hD]) rfl ⟨by simp[hD],?_⟩
    exact(hB3.setCell (p:=⟨w.heap.size+1,0,none⟩) qk _).setCell (p:=⟨w.heap.size+1,1,none⟩) qk _
   ·have p2f:inB c2 0 ((W:Int) - 1)=false:=by simpa using p2
    have eb:b=false:=by rw[<- hB.out];simp[inB] at p1 p2;simp[inG];omega
    subst eb
    clear p2
    go_wp2_with (go_at_call 38;refine(zbe _ _ _ _).mono ?_;rintro e w' ⟨rfl,rfl⟩)
    refine bodyPost_ret (v:=zgk (0,0,false)) (by simp[results,results122,go_sem,q0,q1,zgk]) rfl ⟨qk,?_⟩
    exact(hB3.setCell (p:=⟨w.heap.size+1,0,none⟩) qk _).setCell (p:=⟨w.heap.size+1,1,none⟩) qk _
  ·have p1f:inB r2 0 ((H:Int) - 1)=false:=by simpa using p1
   have eb:b=false:=by rw[<- hB.out];simp[inB] at p1;simp[inG];omega
   subst eb
   clear p1
   go_wp2_with (go_at_call 38;refine(zbe _ _ _ _).mono ?_;rintro e w' ⟨rfl,rfl⟩)
   refine bodyPost_ret (v:=zgk (0,0,false)) (by simp[results,results122,go_sem,q0,q1,zgk]) rfl ⟨qk,?_⟩
   exact(hB3.setCell (p:=⟨w.heap.size+1,0,none⟩) qk _).setCell (p:=⟨w.heap.size+1,1,none⟩) qk _
theorem zlp{r c r2 c2 m:Int}{b:Bool}(R:Ray wd cs x d W H r c r2 c2 m b)(a:Option Addr)(cap:Nat)(w:World) :
  Calls (SqG.prog aLt) 122 #[.agg #[.int .i64 wd,.slice a cs.length cap],.int .i64 x,.int .i64 d] w fun e w'=>e=.returned (zgk (zbH wd cs x d))/\Below w.heap.size w w':=by
 rw[R.hv]
 obtain rfl:=R.ew
 have h2:=R.hH2
 have hx:=R.hx
 have hn:=R.hn
 exact zpi d R.hd W H a cs.length cap w R.hW R.hH R.hn qg x r c r2 c2 m qg R.eq1 R.eq2 (by have:=R.hr;omega) (by have:=R.hc;have:=R.hW;omega) R.er R.ec R.hr2 R.hc2 R.em R.hm b R.hb
