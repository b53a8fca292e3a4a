/- Part. -/
import Derived.Laws.EntriesVeiled
import Derived.BigQuiet
import Derived.Deep.DeepCutAuto
import Derived.Test.YthfhlgdeghnggaaGreatEAj
set_option maxHeartbeats 8000000
set_option maxRecDepth 100000
set_option linter.unusedVariables false
namespace Go.Proofs.YthfhlgdeghnggaaGreat
variable{d wd x:Int}{cs:Lp}{H W:Nat}{w0 wa:World}
open Tryz
namespace Sp
variable{aLt:Nat->Func->Func}
open Go.RowKit
def zbO(d:Int):Int:=if d=0 then -1 else if d=2 then 1 else 0
def zcf(d:Int):Int:=if d=1 then 1 else if d=3 then -1 else 0
def inG(r c W H:Int):Bool:=decide (0<=r/\r<H/\0<=c/\c<W)
theorem zs9(r c:Int)(hr:0<=r/\r<=100)(hc:0<=c/\c<=100)(w:World) :
  Calls (SqG.prog aLt) 157 #[.agg #[J r,J c]] w (xB w (.agg #[J (r+zbO 0),J (c+zcf 0)])):=by
 obtain⟨r2,er⟩:∃ r2,r+zbO 0=r2:=⟨_,rfl⟩
 obtain⟨c2,ec⟩:∃ c2,c+zcf 0=c2:=⟨_,rfl⟩
 rw[er,ec]
 simp[zbO] at er
 simp[zcf] at ec
 subst er ec
 go_enter (zfx func157),ntmps157
 go_wp2
 refine bodyPost_ret (v:=.agg #[J (r+-1),J c]) (by simp[results,results157,go_sem,Int.sub_eq_add_neg]) rfl ⟨rfl,?_⟩
 exact bel
theorem zni(r c:Int)(hr:0<=r/\r<=100)(hc:0<=c/\c<=100)(w:World) :
  Calls (SqG.prog aLt) 158 #[.agg #[J r,J c]] w (xB w (.agg #[J (r+zbO 1),J (c+zcf 1)])):=by
 obtain⟨r2,er⟩:∃ r2,r+zbO 1=r2:=⟨_,rfl⟩
 obtain⟨c2,ec⟩:∃ c2,c+zcf 1=c2:=⟨_,rfl⟩
 rw[er,ec]
 simp[zbO] at er
 simp[zcf] at ec
 subst er ec
 go_enter (zfx func158),ntmps158
 go_wp2
 refine bodyPost_ret (v:=.agg #[J r,J (c+1)]) (by simp[results,results158,go_sem]) rfl ⟨rfl,?_⟩
 exact bel
theorem zpC(r c:Int)(hr:0<=r/\r<=100)(hc:0<=c/\c<=100)(w:World) :
  Calls (SqG.prog aLt) 159 #[.agg #[J r,J c]] w (xB w (.agg #[J (r+zbO 2),J (c+zcf 2)])):=by
 obtain⟨r2,er⟩:∃ r2,r+zbO 2=r2:=⟨_,rfl⟩
 obtain⟨c2,ec⟩:∃ c2,c+zcf 2=c2:=⟨_,rfl⟩
 rw[er,ec]
 simp[zbO] at er
 simp[zcf] at ec
 subst er ec
 go_enter (zfx func159),ntmps159
 go_wp2
 refine bodyPost_ret (v:=.agg #[J (r+1),J c]) (by simp[results,results159,go_sem]) rfl ⟨rfl,?_⟩
 exact bel
theorem zpD(r c:Int)(hr:0<=r/\r<=100)(hc:0<=c/\c<=100)(w:World) :
  Calls (SqG.prog aLt) 160 #[.agg #[J r,J c]] w (xB w (.agg #[J (r+zbO 3),J (c+zcf 3)])):=by
 obtain⟨r2,er⟩:∃ r2,r+zbO 3=r2:=⟨_,rfl⟩
 obtain⟨c2,ec⟩:∃ c2,c+zcf 3=c2:=⟨_,rfl⟩
 rw[er,ec]
 simp[zbO] at er
 simp[zcf] at ec
 subst er ec
 go_enter (zfx func160),ntmps160
 go_wp2
 refine bodyPost_ret (v:=.agg #[J r,J (c+-1)]) (by simp[results,results160,go_sem,Int.sub_eq_add_neg]) rfl ⟨rfl,?_⟩
 exact bel
theorem zpS(w:World) :
  Calls (SqG.prog aLt) 149 #[] w (xB w (.agg #[.func (.func 157) #[] #[],.func (.func 158) #[] #[],.func (.func 159) #[] #[],.func (.func 160) #[] #[]])):=by
 go_enter (zfx func149),ntmps149
 go_wp2
 refine bodyPost_ret (v:=.agg #[.func (.func 157) #[] #[],.func (.func 158) #[] #[],.func (.func 159) #[] #[],.func (.func 160) #[] #[]]) (by simp[results,results149,go_sem]) rfl ⟨rfl,?_⟩
 exact bel
theorem zqW(r c:Int)(W H:Nat)(a:Od)(n cap:Nat)(w:World)(hW:1<=W)(hn:n<=1048576)(hH:n / W=H)(hr:-1<=r/\r<=101)(hc:-1<=c/\c<=101) :
  Calls (SqG.prog aLt) 150 #[.agg #[J r,J c],.agg (xG (W:Int) a n cap)] w (xB w (.bool (inG r c W H))):=by
 have HH:Hid (n / W=H):=hH
 clear hH
 by_cases g0:r<0
 ·have hv:inG r c W H=false:=by simp[inG];omega
  have f1:decide (0<=r)=false:=qn
  rw[hv]
  clear hv g0
  go_enter (zfx func150),ntmps150
  go_wp2
  go_quiet (fail)
  go_wp2
  go_ret
  exact⟨rfl,(fun h=>⟨h.os,h.tape,h.output,h.size,h.block⟩:xE w ((w.alloc (.cells #[J r,J c] 223)).alloc (.cells (xG (W:Int) a n cap) 33))->_) bel⟩
 ·skip
  by_cases g1:(H:Int)<=r
  ·have hv:inG r c W H=false:=by simp[inG];omega
   have f1:decide (0<=r)=true:=qn
   have f2:decide (r<(H:Int))=false:=qn
   rw[hv]
   clear hv g0 g1
   obtain⟨w0,h0⟩:∃ w0,w0=(w.alloc (.cells #[J r,J c] 223)).alloc (.cells (xG (W:Int) a n cap) 33):=⟨_,rfl⟩
   have h2:xE w w0:=by rw[h0];exact bel
   have s0:w0.cell? (xC w 0)=some (J r):=by rw[h0];simp[go_sem]
   have s1:w0.cell? (xC w 1)=some (J c):=by rw[h0];simp[go_sem]
   have g0:w0.cell? (xD w 1 0)=some (J (W:Int)):=by rw[h0];simp[go_sem]
   have g1:w0.cell? (xD w 1 1)=some (.slice a n cap):=by rw[h0];simp[go_sem]
   go_enter (zfx func150),ntmps150
   go_wp2
   rw[<- h0]
   clear h0
   first
    | (go_region_with
      (first
       | (go_at_call 83;refine(zdo W H _ _ _ _ hW hn HH.o).mono ?_;rintro e w6 ⟨rfl,hb6'⟩;have h1:xE w0 w6:=(by first|with_reducible exact hb6'|with_reducible exact zcq hb6');have s06:=zaa h1 s0;have s16:=zaa h1 s1;have g06:=zaa h1 g0;have g16:=zaa h1 g1)))
    | fail
   all_goals
    have h3:=zae h2 h2.size h1
    go_wp2
    go_ret
    exact⟨rfl,by first|exact h3|exact h3.drew⟩
  ·skip
   by_cases g2:c<0
   ·have hv:inG r c W H=false:=by simp[inG];omega
    have f1:decide (0<=r)=true:=qn
    have f2:decide (r<(H:Int))=true:=qn
    have f3:decide (0<=c)=false:=qn
    rw[hv]
    clear hv g0 g1 g2
    obtain⟨w0,h0⟩:∃ w0,w0=(w.alloc (.cells #[J r,J c] 223)).alloc (.cells (xG (W:Int) a n cap) 33):=⟨_,rfl⟩
    have h2:xE w w0:=by rw[h0];exact bel
    have s0:w0.cell? (xC w 0)=some (J r):=by rw[h0];simp[go_sem]
    have s1:w0.cell? (xC w 1)=some (J c):=by rw[h0];simp[go_sem]
    have g0:w0.cell? (xD w 1 0)=some (J (W:Int)):=by rw[h0];simp[go_sem]
    have g1:w0.cell? (xD w 1 1)=some (.slice a n cap):=by rw[h0];simp[go_sem]
    go_enter (zfx func150),ntmps150
    go_wp2
    rw[<- h0]
    clear h0
    first
     | (go_region_with
       (first
        | (go_at_call 83;refine(zdo W H _ _ _ _ hW hn HH.o).mono ?_;rintro e w6 ⟨rfl,hb6'⟩;have h1:xE w0 w6:=(by first|with_reducible exact hb6'|with_reducible exact zcq hb6');have s06:=zaa h1 s0;have s16:=zaa h1 s1;have g06:=zaa h1 g0;have g16:=zaa h1 g1)))
     | fail
    all_goals
     have h3:=zae h2 h2.size h1
     go_wp2
     go_ret
     exact⟨rfl,by first|exact h3|exact h3.drew⟩
   ·skip
    by_cases g3:(W:Int)<=c
    ·have hv:inG r c W H=false:=by simp[inG];omega
     have f1:decide (0<=r)=true:=qn
     have f2:decide (r<(H:Int))=true:=qn
     have f3:decide (0<=c)=true:=qn
     have f4:decide (c<(W:Int))=false:=qn
     rw[hv]
     clear hv g0 g1 g2 g3
     obtain⟨w0,h0⟩:∃ w0,w0=(w.alloc (.cells #[J r,J c] 223)).alloc (.cells (xG (W:Int) a n cap) 33):=⟨_,rfl⟩
     have h2:xE w w0:=by rw[h0];exact bel
     have s0:w0.cell? (xC w 0)=some (J r):=by rw[h0];simp[go_sem]
     have s1:w0.cell? (xC w 1)=some (J c):=by rw[h0];simp[go_sem]
     have g0:w0.cell? (xD w 1 0)=some (J (W:Int)):=by rw[h0];simp[go_sem]
     have g1:w0.cell? (xD w 1 1)=some (.slice a n cap):=by rw[h0];simp[go_sem]
     go_enter (zfx func150),ntmps150
     go_wp2
     rw[<- h0]
     clear h0
     go_region_held3 (fun w'=>w'.cell? (xC w 0)=some (J r)/\w'.cell? (xC w 1)=some (J c)/\w'.cell? (xD w 1 0)=some (J (W:Int))/\w'.cell? (xD w 1 1)=some (.slice a n cap))
      (first
       | with_reducible exact⟨zaa h1 s0,zaa h1 s1,zaa h1 g0,zaa h1 g1⟩
       | go_keep)
      (first
       | (go_at_call 83;refine(zdo W H _ _ _ _ hW hn HH.o).mono ?_;rintro e w6 ⟨rfl,hb6'⟩;have h1:xE w0 w6:=(by first|with_reducible exact hb6'|with_reducible exact zcq hb6')))
     have h3:=zae h2 h2.size h1
     go_wp2
     go_ret
     exact⟨rfl,h3⟩
    ·skip
     have hv:inG r c W H=true:=by simp[inG];omega
     have f1:decide (0<=r)=true:=qn
     have f2:decide (r<(H:Int))=true:=qn
     have f3:decide (0<=c)=true:=qn
     have f4:decide (c<(W:Int))=true:=qn
     rw[hv]
     clear hv g0 g1 g2 g3
     obtain⟨w0,h0⟩:∃ w0,w0=(w.alloc (.cells #[J r,J c] 223)).alloc (.cells (xG (W:Int) a n cap) 33):=⟨_,rfl⟩
     have h2:xE w w0:=by rw[h0];exact bel
     have s0:w0.cell? (xC w 0)=some (J r):=by rw[h0];simp[go_sem]
     have s1:w0.cell? (xC w 1)=some (J c):=by rw[h0];simp[go_sem]
     have g0:w0.cell? (xD w 1 0)=some (J (W:Int)):=by rw[h0];simp[go_sem]
     have g1:w0.cell? (xD w 1 1)=some (.slice a n cap):=by rw[h0];simp[go_sem]
     go_enter (zfx func150),ntmps150
     go_wp2
     rw[<- h0]
     clear h0
     go_region_held3 (fun w'=>w'.cell? (xC w 0)=some (J r)/\w'.cell? (xC w 1)=some (J c)/\w'.cell? (xD w 1 0)=some (J (W:Int))/\w'.cell? (xD w 1 1)=some (.slice a n cap))
      (first
       | with_reducible exact⟨zaa h1 s0,zaa h1 s1,zaa h1 g0,zaa h1 g1⟩
       | go_keep)
      (first
       | (go_at_call 83;refine(zdo W H _ _ _ _ hW hn HH.o).mono ?_;rintro e w6 ⟨rfl,hb6'⟩;have h1:xE w0 w6:=(by first|with_reducible exact hb6'|with_reducible exact zcq hb6')))
     have h3:=zae h2 h2.size h1
     go_wp2
     go_ret
     exact⟨rfl,h3⟩
def zbR(wd:Int)(cs:Lp)(x d:Int):Int × Int × Bool :=
 if okG wd cs=true/\(0<=x/\x<cs.length)/\(0<=d/\d<=3)/\inG (x / wd+zbO d) (x % wd+zcf d) wd ((cs.length:Int) / wd)=true then ((x / wd+zbO d) * wd+(x % wd+zcf d),d,true) else (0,0,false)
def zgO(p:Int × Int × Bool):Value:=.tuple #[.agg #[J p.1,J p.2.1],.bool p.2.2]
theorem zsl(h:okG wd cs=true):∃ W H:Nat,wd=(W:Int)/\1<=W/\W<=5/\1<=H/\H<=5/\cs.length=W * H/\cs.length / W=H/\(cs.length:Int) / (W:Int)=(H:Int)/\cs.length<=25:=by
 have hs:zcv wd cs.length=true:=by unfold okG at h;simp only[Bool.and_eq_true] at h;exact h.1
 simp only[zcv,decide_eq_true_eq] at hs
 obtain⟨h1,h2,h3,h4,h5⟩:=hs
 obtain⟨W,rfl⟩:∃ W:Nat,wd=(W:Int):=⟨wd.toNat,qg⟩
 obtain⟨H,eH⟩:∃ H:Nat,(cs.length:Int) / (W:Int)=(H:Int):=⟨((cs.length:Int) / (W:Int)).toNat,qg⟩
 rw[eH] at h4 h5
 have e2:(cs.length:Int)=(W:Int) * (H:Int):=by
  have:=Int.mul_ediv_add_emod (cs.length:Int) (W:Int)
  rw[eH,h3] at this
  omega
 have e3:cs.length=W * H:=by exact_mod_cast e2
 refine⟨W,H,rfl,qg,qg,qg,qg,e3,?_,eH,?_⟩
 ·rw[e3];exact Nat.mul_div_cancel_left H qg
 ·rw[e3];exact Nat.le_trans (Nat.mul_le_mul (show W<=5 by omega) (show H<=5 by omega)) qg
def znO(w0 wc:World)(blk:Nat)(r c:Int):Prop:=w0.heap.size<=blk/\wc.cell? (O blk 0)=some (J r)/\wc.cell? (O blk 1)=some (J c)/\xE w0 wc
theorem zrw(h:xE w0 wa)(r c:Int):znO w0 (wa.alloc (.cells #[J r,J c] 223)) wa.heap.size r c :=
 ⟨h.size,ql,ql,zae h h.size ((Below.refl _ _).alloc (Nat.le_refl _) _)⟩
theorem zrx{blk:Nat}{u0 u1:Value}(h:xE w0 wa)(h0:w0.heap.size<=blk)(z0:wa.cell? (O blk 0)=some u0)(z1:wa.cell? (O blk 1)=some u1)(r c:Int) :
  znO w0 ((wa.setCell (O blk 0) (J r)).setCell (O blk 1) (J c)) blk r c:=by
 refine⟨h0,?_,?_,(h.setCell (p:=(O blk 0)) h0 _).setCell (p:=(O blk 1)) h0 _⟩
 ·rw[World.cell?_setCell_other _ _ _ _ qm]
  exact World.cell?_setCell_same _ _ _ z0
 ·exact World.cell?_setCell_same _ _ _ (by rw[World.cell?_setCell_other _ _ _ _ qm];exact z1)
theorem zpd(W r c:Int)(hc:0<=c/\c<W):(r * W+c) / W=r/\(r * W+c) % W=c :=
 (Int.ediv_emod_unique (show (0:Int)<W by omega)).2 ⟨by rw[Int.mul_comm W r];omega,hc.1,hc.2⟩
theorem zlP(W H r c:Int)(hr:0<=r/\r<H)(hc:0<=c/\c<W):0<=r * W+c/\r * W+c<W * H:=by
 have h1:0<=r * W:=Int.mul_nonneg hr.1 qg
 have h2:(r+1) * W<=H * W:=Int.mul_le_mul_of_nonneg_right qg qg
 rw[Int.add_mul,Int.one_mul,Int.mul_comm H W] at h2
 omega
structure Shape(wd:Int)(cs:Lp)(W H:Int):Prop where
 ok:okG wd cs=true
 ew:wd=W
 hW:1<=W/\W<=5
 hH:1<=H/\H<=5
 el:(cs.length:Int)=W * H
 ed:(cs.length:Int) / wd=H
theorem zrs(h:okG wd cs=true):∃ W H,Shape wd cs W H:=by
 obtain⟨W,H,ew,h1,h2,h3,h4,el,hH,h0,hn⟩:=zsl h
 exact⟨W,H,h,ew,qg,qg,by exact_mod_cast el,by rw[ew];exact h0⟩
theorem zrv{W H:Int}(S:Shape wd cs W H)(hx:0<=x/\x<cs.length):∃ r c,x=r * W+c/\(0<=r/\r<H)/\(0<=c/\c<W):=by
 have hW:=S.hW
 have e:=Int.mul_ediv_add_emod x W
 refine⟨x / W,x % W,by rw[Int.mul_comm];omega,⟨Int.ediv_nonneg hx.1 qg,Int.ediv_lt_of_lt_mul qg ?_⟩,Int.emod_nonneg x qg,Int.emod_lt_of_pos x qg⟩
 rw[Int.mul_comm,<- S.el]
 exact hx.2
theorem zpg{W H:Int}(S:Shape wd cs W H)(r c d:Int)(hr:0<=r/\r<H)(hc:0<=c/\c<W)(hd:0<=d/\d<=3) :
  zbR wd cs (r * W+c) d=if inG (r+zbO d) (c+zcf d) W H=true then ((r+zbO d) * W+(c+zcf d),d,true) else (0,0,false):=by
 obtain⟨q1,q2⟩:=zpd W r c hc
 have q3:=zlP W H r c hr hc
 unfold zbR
 rw[S.ed,S.ew,q1,q2]
 rw[S.el]
 have ok:=S.ok
 rw[S.ew] at ok
 by_cases k:inG (r+zbO d) (c+zcf d) W H=true
 ·rw[if_pos ⟨ok,q3,hd,k⟩,if_pos k]
 ·rw[if_neg (fun q=>k q.2.2.2),if_neg k]
theorem zjw{x2 d2:Int}(h:zbR wd cs x d=(x2,d2,true)):okG wd cs=true/\(0<=x/\x<(cs.length:Int))/\(0<=d/\d<=3)/\d2=d:=by
 unfold zbR at h
 split at h
 ·next k=>simp only[Prod.mk.injEq] at h;exact⟨k.1,k.2.1,k.2.2.1,h.2.1.symm⟩
 ·simp at h
def zt2(d W:Int):Int:=if d=0 then -W else if d=1 then 1 else if d=2 then W else -1
theorem zlS{x2 d2:Int}(h:zbR wd cs x d=(x2,d2,true)) :
  d2=d/\(0<=d/\d<=3)/\(0<=x/\x<=24)/\(0<=x2/\x2<=24)/\(1<=wd/\wd<=5)/\zbR wd cs x2 ((d+2) % 4)=(x,(d+2) % 4,true)/\x+zt2 d wd=x2:=by
 obtain⟨h0,hx,hd,e2⟩:=zjw h
 obtain⟨W,H,S⟩:=zrs h0
 obtain⟨r,c,ex,hr,hc⟩:=zrv S hx
 have hW:=S.hW
 have hH:=S.hH
 have hl:(cs.length:Int)<=25:=by rw[S.el];exact Int.le_trans (Int.mul_le_mul hW.2 hH.2 qg qg) qg
 subst e2
 rw[ex,zpg S r c d2 hr hc hd] at h
 split at h
 ·next k =>
  simp only[inG,decide_eq_true_eq] at k
  simp only[Prod.mk.injEq,and_true] at h
  have k1:0<=r+zbO d2/\r+zbO d2<H:=⟨k.1,k.2.1⟩
  have k2:0<=c+zcf d2/\c+zcf d2<W:=k.2.2
  have q3:=zlP W H _ _ k1 k2
  rw[h,<- S.el] at q3
  have h1:0<=(d2+2) % 4/\(d2+2) % 4<=3:=qg
  refine⟨rfl,hd,qg,qg,by have:=S.ew;omega,?_,?_⟩
  ·rw[<- h,zpg S _ _ _ k1 k2 h1]
   have e1:r+zbO d2+zbO ((d2+2) % 4)=r:=by
    rcases (show d2=0\/d2=1\/d2=2\/d2=3 by omega) with rfl|rfl|rfl|rfl <;> simp[zbO] <;> omega
   have e2:c+zcf d2+zcf ((d2+2) % 4)=c:=by
    rcases (show d2=0\/d2=1\/d2=2\/d2=3 by omega) with rfl|rfl|rfl|rfl <;> simp[zcf] <;> omega
   rw[e1,e2,if_pos (by simp[inG];omega),<- ex]
  ·rw[<- h,ex,S.ew]
   rcases (show d2=0\/d2=1\/d2=2\/d2=3 by omega) with rfl|rfl|rfl|rfl <;> simp[zbO,zcf,zt2,Int.add_mul] <;> omega
 ·simp at h
theorem zoD{f:Nat}(hd:inB d 0 3=true)(hs:∀(x:Array Value) w,Sem.run (SqG.prog aLt) (callFunc f x) w=.ok (.enter f x) w)(hu:∀ w:World,Sem.run (SqG.prog aLt) (Instr.index 220 (.agg #[.func (.func 157) #[] #[],.func (.func 158) #[] #[],.func (.func 159) #[] #[],.func (.func 160) #[] #[]]) (J d)) w=.ok (.func (.func f) #[] #[]) w)(W H:Nat)(a:Od)(cap:Nat)(cs:Lp)(w:World)(h:zaf w a cs)(hw:okG (W:Int) cs=true)(hW:1<=W/\W<=5)(hH:cs.length / W=H)(hn:cs.length<=25)(x r c r2 c2 m y:Int)(hx:0<=x/\x<cs.length)(eq1:x / (W:Int)=r)(eq2:x % (W:Int)=c)(hr:0<=r/\r<=24)(hc:0<=c/\c<=4)(hr2:-1<=r2/\r2<=25)(hc2:-1<=c2/\c2<=5)(em:r2 * (W:Int)=m)(hm:-5<=m/\m<=125)(h7:∀ w,Calls (SqG.prog aLt) f #[.agg #[J r,J c]] w (xB w (.agg #[J r2,J c2])))(b:Bool)(hb:inG r2 c2 W H=b) :
  Calls (SqG.prog aLt) 132 #[.agg (xG (W:Int) a cs.length cap),J x,J d] w fun e w'=>e=.returned (zgO (if b then (m+c2,d,true) else (0,0,false)))/\xE w w':=by
 have HH:Hid (cs.length / W=H):=hH
 have HM:Hid (∀ w,Calls (SqG.prog aLt) f #[.agg #[J r,J c]] w (xB w (.agg #[J r2,J c2]))):=h7
 have HB:Hid (inG r2 c2 W H=b):=hb
 have hp:inP x cs.length=true:=by simp[inP];omega
 have w1:IntKind.i64.wrap (r2 * (W:Int))=m:=by rw[em];exact IntWalk.i64_in _ qg
 have hy:(1:Int)<=(W:Int):=qg
 have x0:0<=x:=hx.1
 have x1:x<=24:=qg
 clear hH em hb h7
 have hz:((W:Int) == 0)=false:=qn
 have hk:¬ (W:Int)=0:=qg
 have hl:¬ W=0:=qg
 have hA:(W == 0)=false:=qn
 have e6:x.tdiv (W:Int)=r:=by rw[<- eq1];exact Int.tdiv_eq_ediv_of_nonneg qg
 have e7:x.tmod (W:Int)=c:=by rw[<- eq2];exact Int.tmod_eq_emod_of_nonneg qg
 have wr:IntKind.i64.wrap r=r:=IntWalk.i64_in _ qg
 have wcc:IntKind.i64.wrap c=c:=IntWalk.i64_in _ qg
 go_enter (zfx func132),ntmps132
 go_wp2_with fail
 refine(zar _ _ _ cs _ (h.below bel) qg).mono ?_
 rintro e u1 ⟨rfl,h2⟩
 have g0:u1.cell? (xC w 0)=some (J (W:Int)):=zaa h2 ql
 have g1:u1.cell? (xC w 1)=some (.slice a cs.length cap):=zaa h2 ql
 have q0:u1.cell? (xD w 1 0)=some (J 0):=zaa h2 ql
 have q1:u1.cell? (xD w 1 1)=some (J 0):=zaa h2 ql
 have f0:u1.frozen? (xD w 1 0)=false:=zak h2 (v:=J 0) ql ql
 have f1:u1.frozen? (xD w 1 1)=false:=zak h2 (v:=J 0) ql ql
 have hD:w.heap.size+2<=u1.heap.size:=by have:=h2.size;simp at this;omega
 have h8:xE w u1:=zae bel qn h2
 clear h2
 go_wp2_with fail
 refine(zcS _ _ _ _ _ qg _).mono ?_
 rintro e u2 ⟨rfl,h3⟩
 replace f0:=zak h3 q0 f0
 replace f1:=zak h3 q1 f1
 replace g0:=zaa h3 g0;replace g1:=zaa h3 g1;replace q0:=zaa h3 q0;replace q1:=zaa h3 q1
 have hE:=h3.size
 have h9:=zae h8 qg h3
 clear h3 h8
 go_wp2_with fail
 refine(zcE _ _).mono ?_
 rintro e u3 ⟨rfl,rfl⟩
 go_wp2_with fail
 refine(zpS _).mono ?_
 rintro e u4 ⟨rfl,h4⟩
 replace f0:=zak h4 q0 f0
 replace f1:=zak h4 q1 f1
 replace g0:=zaa h4 g0;replace g1:=zaa h4 g1;replace q0:=zaa h4 q0;replace q1:=zaa h4 q1
 have hF:=h4.size
 have he:=zae h9 qg h4
 clear h4 h9
 have h5:xE u4 (u4.alloc (.cells #[J 0,J 0] 223)):=bel
 have nv1:w.heap.size≠u4.heap.size:=qg
 go_wp2
 go_cut [9] (fun s9 wc=>∃ blk:Nat,s9=.pointer (xA blk)/\znO u4 wc blk r2 c2)
 case first =>
  go_region_held3 (fun w'=>w'.cell? (xC w 0)=some (J (W:Int)))
   (first
    | with_reducible exact zaa h0 g0
    | with_reducible exact zaa h5 g0
    | with_reducible exact zaa hj g0
    | with_reducible exact zua nv1 (zua nv1 (zaa h0 g0))
    | go_keep)
   (first
    | (with_reducible show Calls _ f _ _ _;refine(HM.o _).mono ?_;rintro e wa ⟨rfl,hb5'⟩;have h0:xE u4 wa:=(by first|with_reducible exact hb5'|with_reducible exact zcq hb5');have hj:xE u4 (wa.alloc (.cells #[J r2,J c2] 223)):=zae h0 h0.size ((Below.refl _ _).alloc (Nat.le_refl _) _))
    | (with_reducible show Calls _ f _ _ _;refine(HM.o _).mono ?_;rintro e wa ⟨rfl,hb5'⟩;have h0:xE u4 wa:=(by first|with_reducible exact zae h5 h5.size hb5'|with_reducible exact zae h5 h5.size (zcq hb5'));have z0:wa.cell? (xC u4 0)=some (J 0):=zaa hb5' ql;have z1:wa.cell? (xC u4 1)=some (J 0):=zaa hb5' ql;have zf0:wa.frozen? (xC u4 0)=false:=zak hb5' (v:=J 0) ql ql;have zf1:wa.frozen? (xC u4 1)=false:=zak hb5' (v:=J 0) ql ql))
  ·have h6:=zrw h0 r2 c2
   go_wp2_with fail
   go_meet
   case rel=>exact⟨_,rfl,h6⟩
  ·have h6:=zrx h0 (Nat.le_refl _) z0 z1 r2 c2
   go_wp2_with fail
   go_meet
   case rel=>exact⟨_,rfl,h6⟩
 case rest =>
  obtain⟨blk,rfl,hq,s0,s1,h0⟩:=hcut
  replace f0:=zak h0 q0 f0
  replace f1:=zak h0 q1 f1
  replace g0:=zaa h0 g0;replace g1:=zaa h0 g1;replace q0:=zaa h0 q0;replace q1:=zaa h0 q1
  have hG:=h0.size
  have hf:=zae he qg h0
  clear h0 he h5 nv1
  go_wp2_with fail
  refine(zqW r2 c2 W H _ _ _ _ hW.1 qg HH.o qg qg).mono ?_
  rintro e u6 ⟨rfl,h1⟩
  replace f0:=zak h1 q0 f0
  replace f1:=zak h1 q1 f1
  replace g0:=zaa h1 g0;replace g1:=zaa h1 g1;replace q0:=zaa h1 q0;replace q1:=zaa h1 q1;replace s0:=zaa h1 s0;replace s1:=zaa h1 s1
  have hJ:=h1.size
  have hg:=zae hf qg h1
  clear h1 hf
  rw[HB.o]
  cases b
  ·go_wp2
   refine bodyPost_ret (v:=zgO (0,0,false)) (by simp[results,results132,go_sem,q0,q1,zgO]) rfl ⟨qm,?_⟩
   exact(hg.setCell (p:=(xD w 1 0)) qm _).setCell (p:=(xD w 1 1)) qm _
  ·go_wp2
   refine bodyPost_ret (v:=zgO (m+c2,d,true)) (by simp[results,results132,go_sem,q0,q1,zgO]) rfl ⟨qm,?_⟩
   exact(hg.setCell (p:=(xD w 1 0)) qm _).setCell (p:=(xD w 1 1)) qm _
def zuo(wd:Int)(cs:Lp)(x d:Int):Prop:=okG wd cs=false\/(okG wd cs=true/\inP x cs.length=false)\/(okG wd cs=true/\inP x cs.length=true/\inB d 0 3=false)
theorem zkp(wd:Int)(a:Od)(cap:Nat)(cs:Lp)(w:World)(h:zaf w a cs)(hm:cs.length<=1048576)(x d:Int)(h3:zuo wd cs x d) :
  Calls (SqG.prog aLt) 132 #[.agg (xG wd a cs.length cap),J x,J d] w (xB w (zgO (0,0,false))):=by
 go_enter (zfx func132),ntmps132
 go_wp2_with fail
 refine(zar _ _ _ cs _ (h.below bel) qg).mono ?_
 rintro e u1 ⟨rfl,h0⟩
 have g0:u1.cell? (xC w 0)=some (J wd):=zaa h0 ql
 have g1:u1.cell? (xC w 1)=some (.slice a cs.length cap):=zaa h0 ql
 have q0:u1.cell? (xD w 1 0)=some (J 0):=zaa h0 ql
 have q1:u1.cell? (xD w 1 1)=some (J 0):=zaa h0 ql
 have f0:u1.frozen? (xD w 1 0)=false:=zak h0 (v:=J 0) ql ql
 have f1:u1.frozen? (xD w 1 1)=false:=zak h0 (v:=J 0) ql ql
 have h5:w.heap.size+2<=u1.heap.size:=by have:=h0.size;simp at this;omega
 have h2:xE w u1:=zae bel qn h0
 clear h0
 rcases h3 with k1|⟨k1,k2⟩|⟨k1,k2,k3⟩
 ·go_wp2
  refine bodyPost_ret (v:=zgO (0,0,false)) (by simp[results,results132,go_sem,q0,q1,zgO]) rfl ⟨qm,?_⟩
  exact(h2.setCell (p:=(xD w 1 0)) qm _).setCell (p:=(xD w 1 1)) qm _
 all_goals
  go_wp2_with fail
  refine(zcS _ _ _ _ _ qg _).mono ?_
  rintro e u2 ⟨rfl,h1⟩
  replace f0:=zak h1 q0 f0
  replace f1:=zak h1 q1 f1
  replace g0:=zaa h1 g0;replace g1:=zaa h1 g1;replace q0:=zaa h1 q0;replace q1:=zaa h1 q1
  have h6:=h1.size
  have h4:=zae h2 qg h1
  clear h1 h2
  go_wp2_with (go_at_call 147;refine(zcE _ _).mono ?_;rintro e w' ⟨rfl,rfl⟩)
  refine bodyPost_ret (v:=zgO (0,0,false)) (by simp[results,results132,go_sem,q0,q1,zgO]) rfl ⟨qm,?_⟩
  exact(h4.setCell (p:=(xD w 1 0)) qm _).setCell (p:=(xD w 1 1)) qm _
theorem zri(h:zuo wd cs x d):zbR wd cs x d=(0,0,false):=by
 unfold zbR
 rw[if_neg]
 rintro⟨h1,h2,h3,_⟩
 rcases h with k1|⟨k1,k2⟩|⟨k1,k2,k3⟩
 ·rw[h1] at k1;cases k1
 ·simp[inP] at k2;omega
 ·simp[inB] at k3;omega
structure Ray(wd:Int)(cs:Lp)(x d:Int)(W H:Nat)(r c r2 c2 m:Int)(b:Bool):Prop where
 ew:wd=(W:Int)
 ok:okG wd cs=true
 hW:1<=W/\W<=5
 hH:cs.length / W=H
 hn:cs.length<=25
 hH2:1<=H/\H<=5
 el:cs.length=W * H
 hx:0<=x/\x<cs.length
 hd:0<=d/\d<=3
 eq1:x / (W:Int)=r
 eq2:x % (W:Int)=c
 hr:0<=r/\r<H
 hc:0<=c/\c<W
 er:r+zbO d=r2
 ec:c+zcf d=c2
 hr2:-1<=r2/\r2<=25
 hc2:-1<=c2/\c2<=5
 em:r2 * (W:Int)=m
 hm:-5<=m/\m<=125
 hb:inG r2 c2 W H=b
 hv:zbR wd cs x d=if b then (m+c2,d,true) else (0,0,false)
theorem zsg(wd:Int)(cs:Lp)(x d:Int)(h0:okG wd cs=true)(hx:0<=x/\x<cs.length)(hd:0<=d/\d<=3):∃ W H r c r2 c2 m b,Ray wd cs x d W H r c r2 c2 m b:=by
 obtain⟨W,H,ew,h1,h2,h3,h4,el,hH,h6,hn⟩:=zsl h0
 have h5:(0:Int)<(W:Int):=qg
 have c0:=Int.emod_nonneg x (show (W:Int)≠0 by omega)
 have c1:=Int.emod_lt_of_pos x h5
 have r0:0<=x / (W:Int):=Int.ediv_nonneg hx.1 qg
 have r1:x / (W:Int)<(H:Int):=by
  refine Int.ediv_lt_of_lt_mul h5 ?_
  have:(cs.length:Int)=(W:Int) * (H:Int):=by exact_mod_cast el
  rw[Int.mul_comm]
  omega
 have dr:-1<=zbO d/\zbO d<=1:=by unfold zbO;split <;> (try split) <;> omega
 have dc:-1<=zcf d/\zcf d<=1:=by unfold zcf;split <;> (try split) <;> omega
 refine⟨W,H,x / (W:Int),x % (W:Int),_,_,_,_,ew,h0,⟨h1,h2⟩,hH,hn,⟨h3,h4⟩,el,hx,hd,rfl,rfl,⟨r0,r1⟩,⟨c0,c1⟩,rfl,rfl,qg,qg,rfl,?_,rfl,?_⟩
 ·have m1:(-1:Int) * 5<=(x / (W:Int)+zbO d) * (W:Int):=by
   rcases Int.lt_or_le (x / (W:Int)+zbO d) 0 with k|k
   ·rw[show x / (W:Int)+zbO d=-1 by omega];omega
   ·exact Int.le_trans qg (Int.mul_nonneg k qg)
  have m2:(x / (W:Int)+zbO d) * (W:Int)<=125:=by
   rcases Int.lt_or_le (x / (W:Int)+zbO d) 0 with k|k
   ·rw[show x / (W:Int)+zbO d=-1 by omega];omega
   ·exact Int.le_trans (Int.mul_le_mul (show x / (W:Int)+zbO d<=25 by omega) (show (W:Int)<=5 by omega) qg qg) qg
  omega
 ·unfold zbR
  subst ew
  rw[h6]
  by_cases k:inG (x / (W:Int)+zbO d) (x % (W:Int)+zcf d) W H=true
  ·rw[if_pos ⟨h0,hx,hd,k⟩,if_pos k]
  ·rw[if_neg (fun q=>k q.2.2.2),if_neg k]
theorem zsN(wd:Int)(cs:Lp)(x d:Int):zuo wd cs x d\/(okG wd cs=true/\(0<=x/\x<(cs.length:Int))/\(0<=d/\d<=3)):=by
 by_cases k1:okG wd cs=true
 ·by_cases k2:0<=x/\x<(cs.length:Int)
  ·by_cases k3:0<=d/\d<=3
   ·exact Or.inr ⟨k1,k2,k3⟩
   ·exact Or.inl (Or.inr (Or.inr ⟨k1,decide_eq_true k2,decide_eq_false k3⟩))
  ·exact Or.inl (Or.inr (Or.inl ⟨k1,decide_eq_false k2⟩))
 ·exact Or.inl (Or.inl (by simpa using k1))
theorem zfX(wd:Int)(a:Od)(cap:Nat)(cs:Lp)(w:World)(h:zaf w a cs)(hm:cs.length<=1048576)(x d:Int) :
  Calls (SqG.prog aLt) 132 #[.agg (xG wd a cs.length cap),J x,J d] w (xB w (zgO (zbR wd cs x d))):=by
 rcases zsN wd cs x d with hb|⟨k1,k2,k3⟩
 ·rw[zri hb]
  exact zkp wd a cap cs w h hm x d hb
 ·obtain⟨W,H,r,c,r2,c2,m,b,R⟩:=zsg wd cs x d k1 k2 k3
  rw[R.hv]
  obtain rfl:=R.ew
  have one:∀(f:Nat),(∀(x:Array Value) w,Sem.run (SqG.prog aLt) (callFunc f x) w=.ok (.enter f x) w)->(∀ w:World,Sem.run (SqG.prog aLt) (Instr.index 220 (.agg #[.func (.func 157) #[] #[],.func (.func 158) #[] #[],.func (.func 159) #[] #[],.func (.func 160) #[] #[]]) (J d)) w=.ok (.func (.func f) #[] #[]) w)->(∀ w,Calls (SqG.prog aLt) f #[.agg #[J r,J c]] w (xB w (.agg #[J (r+zbO d),J (c+zcf d)])))->Calls (SqG.prog aLt) 132 #[.agg (xG (W:Int) a cs.length cap),J x,J d] w fun e w'=>e=.returned (zgO (if b then (m+c2,d,true) else (0,0,false)))/\xE w w':=fun f h1 h2 h3 =>
   zoD (by simp[inB];omega) h1 h2 W H a cap cs w h R.ok R.hW R.hH R.hn x r c r2 c2 m 0 R.hx R.eq1 R.eq2 (by have:=R.hr;have:=R.hH2;omega) (by have:=R.hc;have:=R.hW;omega) R.hr2 R.hc2 R.em R.hm (by rw[<- R.er,<- R.ec];exact h3) b R.hb
  have hr:0<=r/\r<=100:=by have:=R.hr;have:=R.hH2;omega
  have hc:0<=c/\c<=100:=by have:=R.hc;have:=R.hW;omega
  rcases (show d=0\/d=1\/d=2\/d=3 by omega) with rfl|rfl|rfl|rfl
  ·exact one 157 (fun _ _=>qm) (fun w=>by simp[Instr.index,run_underlying SqG.underlying220,go_sem]) (zs9 r c hr hc)
  ·exact one 158 (fun _ _=>qm) (fun w=>by simp[Instr.index,run_underlying SqG.underlying220,go_sem]) (zni r c hr hc)
  ·exact one 159 (fun _ _=>qm) (fun w=>by simp[Instr.index,run_underlying SqG.underlying220,go_sem]) (zpC r c hr hc)
  ·exact one 160 (fun _ _=>qm) (fun w=>by simp[Instr.index,run_underlying SqG.underlying220,go_sem]) (zpD r c hr hc)
abbrev nI(n:Nat):Int:=(n:Int)
theorem znh:∀ W:Fin 5,∀ H:Fin 5,∀ k:Fin 20,k.val<2 * (W.val+1+(H.val+1)) ->
  (0<=(zdI (nI (W.val+1)) (nI (H.val+1)) (nI k.val)).1/\(zdI (nI (W.val+1)) (nI (H.val+1)) (nI k.val)).1<nI (W.val+1) * nI (H.val+1)) /\
  inG ((zdI (nI (W.val+1)) (nI (H.val+1)) (nI k.val)).1 / nI (W.val+1)+zbO (((zdI (nI (W.val+1)) (nI (H.val+1)) (nI k.val)).2+2) % 4)) ((zdI (nI (W.val+1)) (nI (H.val+1)) (nI k.val)).1 % nI (W.val+1)+zcf (((zdI (nI (W.val+1)) (nI (H.val+1)) (nI k.val)).2+2) % 4)) (nI (W.val+1)) (nI (H.val+1))=false /\
  ofN (nI (W.val+1)) (nI (H.val+1)) (zdI (nI (W.val+1)) (nI (H.val+1)) (nI k.val)).1 (((zdI (nI (W.val+1)) (nI (H.val+1)) (nI k.val)).2+2) % 4) (2 * (W.val+1+(H.val+1)))=nI k.val:=by decide +kernel
theorem zmF:∀ W:Fin 5,∀ H:Fin 5,∀ x:Fin 25,∀ d:Fin 4,x.val<(W.val+1) * (H.val+1) ->
  if inG (nI x.val / nI (W.val+1)+zbO (nI d.val)) (nI x.val % nI (W.val+1)+zcf (nI d.val)) (nI (W.val+1)) (nI (H.val+1))=true then ofN (nI (W.val+1)) (nI (H.val+1)) (nI x.val) (nI d.val) (2 * (W.val+1+(H.val+1)))=-1
  else (0<=ofN (nI (W.val+1)) (nI (H.val+1)) (nI x.val) (nI d.val) (2 * (W.val+1+(H.val+1)))/\ofN (nI (W.val+1)) (nI (H.val+1)) (nI x.val) (nI d.val) (2 * (W.val+1+(H.val+1)))<2 * (nI (W.val+1)+nI (H.val+1))) /\
   zdI (nI (W.val+1)) (nI (H.val+1)) (ofN (nI (W.val+1)) (nI (H.val+1)) (nI x.val) (nI d.val) (2 * (W.val+1+(H.val+1))))=(nI x.val,(nI d.val+2) % 4):=by decide +kernel
theorem zhj(W H k:Nat)(hW:1<=W/\W<=5)(hH:1<=H/\H<=5)(hk:k<2 * (W+H))(x d:Int)(hs:zdI W H k=(x,d)) :
  (0<=x/\x<(W:Int) * (H:Int))/\(0<=d/\d<=3)/\inG (x / (W:Int)+zbO ((d+2) % 4)) (x % (W:Int)+zcf ((d+2) % 4)) W H=false/\ofN W H x ((d+2) % 4) (2 * (W+H))=(k:Int):=by
 have h:=znh ⟨W - 1,qg⟩ ⟨H - 1,qg⟩ ⟨k,qg⟩
 simp only[show W - 1+1=W by omega,show H - 1+1=H by omega,nI] at h
 have h2:=h hk
 rw[hs] at h2
 exact⟨h2.1,zlX _ _ _ _ _ hs,h2.2.1,h2.2.2⟩
theorem zpy(W H x d:Nat)(hW:1<=W/\W<=5)(hH:1<=H/\H<=5)(hx:x<W * H)(hd:d<4) :
  (inG ((x:Int) / (W:Int)+zbO (d:Int)) ((x:Int) % (W:Int)+zcf (d:Int)) W H=true/\ofN W H x d (2 * (W+H))=-1) \/
  (inG ((x:Int) / (W:Int)+zbO (d:Int)) ((x:Int) % (W:Int)+zcf (d:Int)) W H=false/\∃ k:Nat,k<2 * (W+H)/\ofN W H x d (2 * (W+H))=(k:Int)/\zdI W H k=((x:Int),((d:Int)+2) % 4)):=by
 have h0:x<25:=nll hx (Nat.le_trans (Nat.mul_le_mul hW.2 hH.2) qg)
 have h:=zmF ⟨W - 1,qg⟩ ⟨H - 1,qg⟩ ⟨x,h0⟩ ⟨d,hd⟩
 simp only[show W - 1+1=W by omega,show H - 1+1=H by omega,nI] at h
 have h2:=h hx
 by_cases q:inG ((x:Int) / (W:Int)+zbO (d:Int)) ((x:Int) % (W:Int)+zcf (d:Int)) W H=true
 ·rw[if_pos q] at h2
  exact Or.inl ⟨q,h2⟩
 ·rw[if_neg q] at h2
  obtain⟨⟨k0,k1⟩,k2⟩:=h2
  obtain⟨k,hk⟩:=Int.eq_ofNat_of_zero_le k0
  rw[hk] at k1 k2
  exact Or.inr ⟨by simpa using q,k,qg,hk,k2⟩
structure Siz(wd:Int)(cs:Lp)(W H:Nat):Prop where
 ok:okG wd cs=true
 ew:wd=(W:Int)
 hW:1<=W/\W<=5
 hH:1<=H/\H<=5
 el:cs.length=W * H
 hI:(cs.length:Int) / wd=(H:Int)
 em:zbV wd cs=2 * ((W:Int)+(H:Int))
theorem zc3(h:okG wd cs=true):∃ W H,Siz wd cs W H:=by
 obtain⟨W,H,rfl,h1,h2,h3,h4,el,hH,h0⟩:=zf7 wd cs h
 exact⟨W,H,h,rfl,⟨h1,h2⟩,⟨h3,h4⟩,el,h0,zcQ h h0⟩
theorem zdC(S:Siz wd cs W H)(k:Nat)(hk:k<2 * (W+H)):zbU wd cs (k:Int)=((zdI W H k).1,(zdI W H k).2,true):=by
 unfold zbU
 rw[if_pos ⟨S.ok,qg,by rw[S.em];omega⟩,S.hI,S.ew]
theorem zfp(S:Siz wd cs W H)(x d:Int)(hx:0<=x/\x<(W:Int) * (H:Int))(hd:0<=d/\d<=3):zcR wd cs x d=ofN W H x d (2 * (W+H)):=by
 unfold zcR
 have e1:(cs.length:Int)=(W:Int) * (H:Int):=by rw[S.el];simp
 rw[if_pos ⟨S.ok,by rw[e1];exact hx,hd⟩,S.em,S.hI,S.ew,show (2 * ((W:Int)+(H:Int))).toNat=2 * (W+H) by omega]
theorem zkJ(S:Siz wd cs W H)(x d:Int)(hx:0<=x/\x<(W:Int) * (H:Int))(hd:0<=d/\d<=3) :
  zbR wd cs x d=if inG (x / (W:Int)+zbO d) (x % (W:Int)+zcf d) W H=true then ((x / (W:Int)+zbO d) * (W:Int)+(x % (W:Int)+zcf d),d,true) else (0,0,false):=by
 unfold zbR
 have e1:(cs.length:Int)=(W:Int) * (H:Int):=by rw[S.el];simp
 rw[S.hI,S.ew]
 by_cases g:inG (x / (W:Int)+zbO d) (x % (W:Int)+zcf d) W H=true
 ·rw[if_pos ⟨by rw[<- S.ew];exact S.ok,by rw[e1];exact hx,hd,g⟩,if_pos g]
 ·rw[if_neg (fun q=>g q.2.2.2),if_neg g]
theorem znV{k:Int}(h:zbU wd cs k=(x,d,true)) :
  (0<=d/\d<=3)/\zbR wd cs x ((d+2) % 4)=(0,0,false)/\zcR wd cs x ((d+2) % 4)=k/\k<zbV wd cs:=by
 unfold zbU at h
 split at h
 ·next c =>
  obtain⟨W,H,S⟩:=zc3 c.1
  have hk:=c.2
  rw[S.em] at hk
  obtain⟨K,rfl⟩:=Int.eq_ofNat_of_zero_le hk.1
  have hs:zdI W H K=(x,d):=by
   rw[S.hI,S.ew] at h
   simp only[Prod.mk.injEq] at h
   rw[<- h.1,<- h.2.1]
  obtain⟨hx,hd,hg,ho⟩:=zhj W H K S.hW S.hH qg x d hs
  refine⟨hd,?_,?_,c.2.2⟩
  ·rw[zkJ S x _ hx qg,if_neg (by simp[hg])]
  ·rw[zfp S x _ hx qg];exact ho
 ·simp at h
theorem zrf(hk:okG wd cs=true)(hx:0<=x/\x<(cs.length:Int))(hd:0<=d/\d<=3) :
  (∃ x2 d2,zbR wd cs x d=(x2,d2,true)/\zcR wd cs x d=-1)\/(zbR wd cs x d=(0,0,false)/\zbU wd cs (zcR wd cs x d)=(x,(d+2) % 4,true)):=by
 obtain⟨W,H,S⟩:=zc3 hk
 have e1:(cs.length:Int)=(W:Int) * (H:Int):=by rw[S.el];simp
 rw[e1] at hx
 obtain⟨X,rfl⟩:=Int.eq_ofNat_of_zero_le hx.1
 obtain⟨D,rfl⟩:=Int.eq_ofNat_of_zero_le hd.1
 have hX:X<W * H:=by have:=hx.2;exact_mod_cast this
 rcases zpy W H X D S.hW S.hH hX qg with ⟨g,o⟩|⟨g,k,hk,o,s⟩
 ·left
  exact⟨_,_,by rw[zkJ S _ _ hx hd,if_pos g],by rw[zfp S _ _ hx hd];exact o⟩
 ·right
  refine⟨by rw[zkJ S _ _ hx hd,if_neg (by simp[g])],?_⟩
  rw[zfp S _ _ hx hd,o,zdC S k hk,s]
theorem zqY(d:Int)(hd:0<=d/\d<=3)(W H:Nat)(a:Od)(n cap:Nat)(w:World)(hW:1<=W/\W<=5)(hH:n / W=H)(hn:n<=25)(hH2:H<=25)(x r c r2 c2 m:Int)(hx:0<=x/\x<=24)(eq1:x / (W:Int)=r)(eq2:x % (W:Int)=c)(hr:0<=r/\r<=24)(hc:0<=c/\c<=4)(er:r+zbO d=r2)(ec:c+zcf d=c2)(hr2:-1<=r2/\r2<=25)(hc2:-1<=c2/\c2<=5)(em:r2 * (W:Int)=m)(hm:-5<=m/\m<=125)(b:Bool)(hb:inG r2 c2 W H=b) :
  Calls (SqG.prog aLt) 139 #[.agg (xG (W:Int) a n cap),J x,J d] w fun e w'=>e=.returned (zgO (if b then (m+c2,d,true) else (0,0,false)))/\xE w w':=by
 have HH:Hid (n / W=H):=hH
 have hz:((W:Int) == 0)=false:=qn
 have h7:¬ (W:Int)=0:=qg
 have h8:¬ W=0:=qg
 have h9:(W == 0)=false:=qn
 have e6:x.tdiv (W:Int)=r:=by rw[<- eq1];exact Int.tdiv_eq_ediv_of_nonneg qg
 have e7:x.tmod (W:Int)=c:=by rw[<- eq2];exact Int.tmod_eq_emod_of_nonneg qg
 have wr:IntKind.i64.wrap r=r:=IntWalk.i64_in _ qg
 have wcc:IntKind.i64.wrap c=c:=IntWalk.i64_in _ qg
 have w1:IntKind.i64.wrap (r2 * (W:Int))=m:=by rw[em];exact IntWalk.i64_in _ qg
 have hB:Hid (inG r2 c2 W H=b):=hb
 have he:(1:Int)<=(W:Int):=qg
 have x0:0<=x:=hx.1
 clear hH em hb
 obtain⟨D,hD⟩:∃ D:Int,D=d:=⟨d,rfl⟩
 rcases (show (d=0/\zbO d=-1/\zcf d=0)\/(d=1/\zbO d=0/\zcf d=1)\/(d=2/\zbO d=1/\zcf d=0)\/(d=3/\zbO d=0/\zcf d=-1) by rcases (show d=0\/d=1\/d=2\/d=3 by omega) with rfl|rfl|rfl|rfl <;> simp[zbO,zcf]) with ⟨rfl,e1,e2⟩|⟨rfl,e1,e2⟩|⟨rfl,e1,e2⟩|⟨rfl,e1,e2⟩
 all_goals
  rw[e1] at er
  rw[e2] at ec
  have w2:=congrArg IntKind.i64.wrap er
  have w3:=congrArg IntKind.i64.wrap ec
  rw[IntWalk.i64_in r2 qg] at w2
  rw[IntWalk.i64_in c2 qg] at w3
  clear e1 e2
  go_enter (zfx func139),ntmps139
  go_wp2
  go_region
  obtain⟨u1,h0⟩:∃ u1,u1=(((w.alloc (.cells (xG (W:Int) a n cap) 33)).alloc (.cells #[J 0,J 0] 144)).alloc (.cells #[J (-1),J 0,J 1,J 0] 3)).drew:=⟨_,rfl⟩
  have h5:xE w u1:=by rw[h0];exact bel
  have hf:u1.heap.size=w.heap.size+3:=by rw[h0];simp[World.drew]
  have g0:u1.cell? (xC w 0)=some (J (W:Int)):=by rw[h0];simp[go_sem]
  have g1:u1.cell? (xC w 1)=some (.slice a n cap):=by rw[h0];simp[go_sem]
  have q0:u1.cell? (xD w 1 0)=some (J 0):=by rw[h0];simp[go_sem]
  have q1:u1.cell? (xD w 1 1)=some (J 0):=by rw[h0];simp[go_sem]
  have f0:u1.frozen? (xD w 1 0)=false:=by rw[h0];simp[go_sem]
  have f1:u1.frozen? (xD w 1 1)=false:=by rw[h0];simp[go_sem]
  rw[<- h0]
  clear h0
  go_wp2
  go_region
  obtain⟨u2,h3⟩:∃ u2,u2=(u1.alloc (.cells #[J 0,J 1,J 0,J (-1)] 3)).drew:=⟨_,rfl⟩
  have h1:xE u1 u2:=by rw[h3];exact bel
  rw[<- h3]
  clear h3
  replace f0:=zak h1 q0 f0
  replace f1:=zak h1 q1 f1
  replace g0:=zaa h1 g0;replace g1:=zaa h1 g1;replace q0:=zaa h1 q0;replace q1:=zaa h1 q1
  have hg:=h1.size
  have h6:=zae h5 qg h1
  clear h1 h5
  go_wp2_with fail
  refine(zgd W H _ _ _ _ hW.1 qg HH.o).mono ?_
  rintro e u3 ⟨rfl,h2⟩
  replace f0:=zak h2 q0 f0
  replace f1:=zak h2 q1 f1
  replace g0:=zaa h2 g0;replace g1:=zaa h2 g1;replace q0:=zaa h2 q0;replace q1:=zaa h2 q1
  have hj:=h2.size
  have h4:=zae h6 qg h2
  clear h2 h6
  by_cases p1:inB r2 0 ((H:Int) - 1)=true
  ·by_cases p2:inB c2 0 ((W:Int) - 1)=true
   ·have eb:b=true:=by rw[<- hB.o];simp[inB] at p1 p2;simp[inG];omega
    subst eb
    go_wp2_with (go_at_call 61;refine(zbc _ _ _ _).mono ?_;rintro e w' ⟨rfl,rfl⟩)
    refine bodyPost_ret (v:=zgO (m+c2,D,true)) (by simp[results,results139,go_sem,q0,q1,zgO,hD]) rfl ⟨by simp[hD],?_⟩
    exact(h4.setCell (p:=(xD w 1 0)) qm _).setCell (p:=(xD w 1 1)) qm _
   ·have p2f:inB c2 0 ((W:Int) - 1)=false:=by simpa using p2
    have eb:b=false:=by rw[<- hB.o];simp[inB] at p1 p2;simp[inG];omega
    subst eb
    clear p2
    go_wp2_with (go_at_call 61;refine(zbc _ _ _ _).mono ?_;rintro e w' ⟨rfl,rfl⟩)
    refine bodyPost_ret (v:=zgO (0,0,false)) (by simp[results,results139,go_sem,q0,q1,zgO]) rfl ⟨qm,?_⟩
    exact(h4.setCell (p:=(xD w 1 0)) qm _).setCell (p:=(xD w 1 1)) qm _
  ·have p1f:inB r2 0 ((H:Int) - 1)=false:=by simpa using p1
   have eb:b=false:=by rw[<- hB.o];simp[inB] at p1;simp[inG];omega
   subst eb
   clear p1
   go_wp2_with (go_at_call 61;refine(zbc _ _ _ _).mono ?_;rintro e w' ⟨rfl,rfl⟩)
   refine bodyPost_ret (v:=zgO (0,0,false)) (by simp[results,results139,go_sem,q0,q1,zgO]) rfl ⟨qm,?_⟩
   exact(h4.setCell (p:=(xD w 1 0)) qm _).setCell (p:=(xD w 1 1)) qm _
theorem zmE{r c r2 c2 m:Int}{b:Bool}(R:Ray wd cs x d W H r c r2 c2 m b)(a:Od)(cap:Nat)(w:World) :
  Calls (SqG.prog aLt) 139 #[.agg (xG wd a cs.length cap),J x,J d] w (xB w (zgO (zbR wd cs x d))):=by
 rw[R.hv]
 obtain rfl:=R.ew
 have h2:=R.hH2
 have hx:=R.hx
 have hn:=R.hn
 exact zqY d R.hd W H a cs.length cap w R.hW R.hH R.hn qg x r c r2 c2 m qg R.eq1 R.eq2 (by have:=R.hr;omega) (by have:=R.hc;have:=R.hW;omega) R.er R.ec R.hr2 R.hc2 R.em R.hm b R.hb
