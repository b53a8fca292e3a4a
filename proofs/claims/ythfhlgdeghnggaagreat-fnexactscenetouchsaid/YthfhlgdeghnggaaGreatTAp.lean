/- Part. -/
import Derived.Deep.RegionHeld3
import Derived.Test.YthfhlgdeghnggaaGreatTAm
set_option maxHeartbeats 2000000
set_option linter.unusedVariables false
namespace Go.Proofs.YthfhlgdeghnggaaGreat
namespace Sp
variable{aLt:Nat->Func->Func}
open Go.RowKit
def zdq(W H k:Int):Int × Int :=
 if k<W then (k,2) else if k - W<H then ((k - W) * W+W - 1,3) else if k - W - H<W then (W * H - 1 - (k - W - H),0) else (W * H - 1 - W+1 - (k - W - H - W) * W,1)
def ofN(W H x d:Int):Nat->Int
 | 0=>-1
 | n+1=>if ofN W H x d n≠-1 then ofN W H x d n else if (zdq W H n).1=x/\((zdq W H n).2+2) % 4=d then (n:Int) else -1
theorem zgQ(W H:Nat)(a:Option Addr)(n cap:Nat)(w:World)(hW:1<=W/\W<=5)(hH5:H<=5)(hn:n<=1048576)(hH:n / W=H) :
  Calls (SqG.prog aLt) 70 #[.agg #[.int .i64 (W:Int),.slice a n cap]] w fun e w'=>e=.returned (.int .i64 (2 * ((W:Int)+(H:Int))))/\Below w.heap.size w w':=by
 have HH:Hid (n / W=H):=hH
 have w1:IntKind.i64.wrap ((W:Int)+(H:Int))=(W:Int)+(H:Int):=IntWalk.i64_in _ (by omega)
 have w2:IntKind.i64.wrap (2 * ((W:Int)+(H:Int)))=2 * ((W:Int)+(H:Int)):=IntWalk.i64_in _ (by omega)
 have hb0:Below w.heap.size w (w.alloc (.cells #[.int .i64 (W:Int),.slice a n cap] 33)):=bel
 have g0:(w.alloc (.cells #[.int .i64 (W:Int),.slice a n cap] 33)).cell? ⟨w.heap.size,0,none⟩=some (.int .i64 (W:Int)):=by simp[go_sem]
 have g1:(w.alloc (.cells #[.int .i64 (W:Int),.slice a n cap] 33)).cell? ⟨w.heap.size,1,none⟩=some (.slice a n cap):=by simp[go_sem]
 clear hH
 go_enter SqG.func70,Tryz.ntmps70
 go_wp2
 obtain⟨w0,hw0⟩:∃ w0,w0=w.alloc (.cells #[.int .i64 (W:Int),.slice a n cap] 33):=⟨_,rfl⟩
 rw[<- hw0] at hb0 g0 g1 ⊢
 clear hw0
 go_region_held3 (fun w'=>w'.cell? ⟨w.heap.size,0,none⟩=some (.int .i64 (W:Int))/\w'.cell? ⟨w.heap.size,1,none⟩=some (.slice a n cap))
  (first
   | with_reducible exact⟨zab hb6 g0,zab hb6 g1⟩
   | go_keep)
  (first
   | (go_at_call 82;refine(zcv W H _ _ _ _ hW.1 hn HH.out).mono ?_;rintro e w6 ⟨rfl,hb6'⟩;have hb6:Below w0.heap.size w0 w6:=(by first|with_reducible exact hb6'|with_reducible exact zbZ hb6'))
   | fail)
 have hBf:=zaj hb0 hb0.size hb6
 go_wp2
 go_ret
 exact⟨rfl,hBf⟩
theorem zgP(d:Int)(h0:0<=d)(h3:d<=3)(w:World) :
  Calls (SqG.prog aLt) 153 #[.int .i64 d] w fun e w'=>e=.returned (.int .i64 ((d+2) % 4))/\w'=w:=by
 go_enter SqG.func153,Tryz.ntmps153
 go_wp2
 go_ret
 exact⟨rfl,rfl⟩
theorem ziz(W H:Nat)(a:Option Addr)(n cap:Nat)(w:World)(hW:1<=W/\W<=5)(hH5:1<=H/\H<=5)(hl:n=W * H)(k:Int)(hk:0<=k/\k<=19)(x d:Int)(hv:zdq W H k=(x,d)) :
  Calls (SqG.prog aLt) 92 #[.agg #[.int .i64 (W:Int),.slice a n cap],.int .i64 k] w fun e w'=>e=.returned (.agg #[.int .i64 x,.int .i64 d])/\Below w.heap.size w w':=by
 have hH:n / W=H:=by rw[hl];exact Nat.mul_div_cancel_left H (by omega)
 have hn:n<=25:=by rw[hl];exact Nat.le_trans (Nat.mul_le_mul hW.2 hH5.2) (by omega)
 have HH:Hid (n / W=H):=hH
 have hlI:(W:Int) * (H:Int)=(n:Int):=by rw[hl];simp
 simp only[zdq,hlI] at hv
 clear hH hl hlI
 go_enter SqG.func92,Tryz.ntmps92
 go_wp2_with fail
 refine(zcv W H _ _ _ _ hW.1 (by omega) HH.out).mono ?_
 rintro e w1 ⟨rfl,hb1⟩
 have g0:w1.cell? ⟨w.heap.size,0,none⟩=some (.int .i64 (W:Int)):=zab hb1 (by simp[go_sem])
 have g1:w1.cell? ⟨w.heap.size,1,none⟩=some (.slice a n cap):=zab hb1 (by simp[go_sem])
 have q0:w1.cell? ⟨w.heap.size+1,0,none⟩=some (.int .i64 0):=zab hb1 (by simp[go_sem])
 have q1:w1.cell? ⟨w.heap.size+1,1,none⟩=some (.int .i64 0):=zab hb1 (by simp[go_sem])
 have f0:w1.frozen? ⟨w.heap.size+1,0,none⟩=false:=zam hb1 (v:=.int .i64 0) (by simp[go_sem]) (by simp[go_sem])
 have f1:w1.frozen? ⟨w.heap.size+1,1,none⟩=false:=zam hb1 (v:=.int .i64 0) (by simp[go_sem]) (by simp[go_sem])
 have hB1:Below w.heap.size w w1:=zaj bel (by simp;omega) hb1
 clear hb1
 by_cases c1:k<(W:Int)
 ·rw[if_pos c1] at hv
  simp only[Prod.mk.injEq] at hv
  obtain⟨rfl,rfl⟩:=hv
  go_wp2
  refine bodyPost_ret (v:=.agg #[.int .i64 k,.int .i64 2]) (by simp[results,Tryz.results92,go_sem,q0,q1]) rfl ⟨rfl,?_⟩
  exact(hB1.setCell (p:=⟨w.heap.size+1,0,none⟩) (by simp) _).setCell (p:=⟨w.heap.size+1,1,none⟩) (by simp) _
 rw[if_neg c1] at hv
 by_cases c2:k - (W:Int)<(H:Int)
 ·rw[if_pos c2] at hv
  simp only[Prod.mk.injEq] at hv
  obtain⟨hx,rfl⟩:=hv
  obtain⟨m,hm⟩:∃ m,(k - (W:Int)) * (W:Int)=m:=⟨_,rfl⟩
  have hm2:0<=m/\m<=25:=by
   rw[<- hm]
   exact⟨Int.mul_nonneg (by omega) (by omega),Int.le_trans (Int.mul_le_mul (show k - (W:Int)<=5 by omega) (show (W:Int)<=5 by omega) (by omega) (by omega)) (by omega)⟩
  have v1:IntKind.i64.wrap ((k - (W:Int)) * (W:Int))=m:=by rw[hm];exact IntWalk.i64_in _ (by omega)
  rw[hm] at hx
  have hx2:m+(W:Int) - 1=x:=hx
  have c1':(W:Int)<=k:=by omega
  clear hm c1 hx
  go_wp2
  refine bodyPost_ret (v:=.agg #[.int .i64 x,.int .i64 3]) (by simp[results,Tryz.results92,go_sem,q0,q1]) rfl ⟨rfl,?_⟩
  exact(hB1.setCell (p:=⟨w.heap.size+1,0,none⟩) (by simp) _).setCell (p:=⟨w.heap.size+1,1,none⟩) (by simp) _
 rw[if_neg c2] at hv
 by_cases c3:k - (W:Int) - (H:Int)<(W:Int)
 ·rw[if_pos c3] at hv
  simp only[Prod.mk.injEq] at hv
  obtain⟨hx,rfl⟩:=hv
  have hx2:(n:Int) - 1 - (k - (W:Int) - (H:Int))=x:=hx
  have c1':(W:Int)<=k:=by omega
  have c2':(H:Int)<=k - (W:Int):=by omega
  clear c1 c2 hx
  go_wp2
  refine bodyPost_ret (v:=.agg #[.int .i64 x,.int .i64 0]) (by simp[results,Tryz.results92,go_sem,q0,q1]) rfl ⟨rfl,?_⟩
  exact(hB1.setCell (p:=⟨w.heap.size+1,0,none⟩) (by simp) _).setCell (p:=⟨w.heap.size+1,1,none⟩) (by simp) _
 ·rw[if_neg c3] at hv
  simp only[Prod.mk.injEq] at hv
  obtain⟨hx,rfl⟩:=hv
  obtain⟨m,hm⟩:∃ m,(k - (W:Int) - (H:Int) - (W:Int)) * (W:Int)=m:=⟨_,rfl⟩
  have hm2:0<=m/\m<=95:=by
   rw[<- hm]
   exact⟨Int.mul_nonneg (by omega) (by omega),Int.le_trans (Int.mul_le_mul (show k - (W:Int) - (H:Int) - (W:Int)<=19 by omega) (show (W:Int)<=5 by omega) (by omega) (by omega)) (by omega)⟩
  have v1:IntKind.i64.wrap ((k - (W:Int) - (H:Int) - (W:Int)) * (W:Int))=m:=by rw[hm];exact IntWalk.i64_in _ (by omega)
  rw[hm] at hx
  have hx2:(n:Int) - 1 - (W:Int)+1 - m=x:=hx
  have c1':(W:Int)<=k:=by omega
  have c2':(H:Int)<=k - (W:Int):=by omega
  have c3':(W:Int)<=k - (W:Int) - (H:Int):=by omega
  clear hm c1 c2 c3 hx
  go_wp2
  refine bodyPost_ret (v:=.agg #[.int .i64 x,.int .i64 1]) (by simp[results,Tryz.results92,go_sem,q0,q1]) rfl ⟨rfl,?_⟩
  exact(hB1.setCell (p:=⟨w.heap.size+1,0,none⟩) (by simp) _).setCell (p:=⟨w.heap.size+1,1,none⟩) (by simp) _
theorem zk7(W H k x d:Int)(h:zdq W H k=(x,d)):0<=d/\d<=3:=by
 unfold zdq at h
 split at h
 ·simp only[Prod.mk.injEq] at h;omega
 ·split at h
  ·simp only[Prod.mk.injEq] at h;omega
  ·split at h <;> (simp only[Prod.mk.injEq] at h;omega)
theorem zrE(W H x d:Int)(k:Nat)(h0:ofN W H x d k=-1)(x2 d2:Int)(hs:zdq W H k=(x2,d2))(h1:x2=x)(h2:(d2+2) % 4=d)(m:Nat)(hm:k<m):ofN W H x d m=(k:Int):=by
 induction m with
 | zero=>omega
 | succ m ih =>
  by_cases h:k<m
  ·have e:=ih h
   simp only[ofN]
   rw[if_pos (by rw[e];omega),e]
  ·obtain rfl:m=k:=by omega
   simp only[ofN]
   rw[if_neg (by simp[h0]),if_pos (by rw[hs];exact⟨h1,h2⟩)]
theorem zkY(W H x d:Int)(k:Nat)(h0:ofN W H x d k=-1)(x2 d2:Int)(hs:zdq W H k=(x2,d2))(h:¬ (x2=x/\(d2+2) % 4=d)):ofN W H x d (k+1)=-1:=by
 simp only[ofN]
 rw[if_neg (by simp[h0]),if_neg (by rw[hs];exact h)]
theorem zpT(W H:Nat)(a:Option Addr)(n cap:Nat)(w:World)(hW:1<=W/\W<=5)(hH5:1<=H/\H<=5)(hl:n=W * H)(x d:Int) :
  Calls (SqG.prog aLt) 140 #[.agg #[.int .i64 (W:Int),.slice a n cap],.int .i64 x,.int .i64 d] w fun e w'=>e=.returned (.int .i64 (ofN W H x d (2 * (W+H))))/\Below w.heap.size w w':=by
 have hH:n / W=H:=by rw[hl];exact Nat.mul_div_cancel_left H (by omega)
 have hn:n<=25:=by rw[hl];exact Nat.le_trans (Nat.mul_le_mul hW.2 hH5.2) (by omega)
 have HH:Hid (n / W=H):=hH
 have HL:Hid (n=W * H):=hl
 obtain⟨M,hM⟩:∃ M:Nat,M=2 * (W+H):=⟨_,rfl⟩
 have HM:Hid (2 * ((W:Int)+(H:Int))=(M:Int)):=by show _=_;rw[hM];simp
 have hM2:M<=20:=by omega
 rw[<- hM]
 have CM:Hid (∀(w:World),Calls (SqG.prog aLt) 70 #[.agg #[.int .i64 (W:Int),.slice a n cap]] w fun e w'=>e=.returned (.int .i64 (M:Int))/\Below w.heap.size w w'):=by
  intro w
  have:=zgQ (aLt:=aLt) W H a n cap w hW hH5.2 (by omega) hH
  rw[HM.out] at this
  exact this
 have hb0:Below w.heap.size w (w.alloc (.cells #[.int .i64 (W:Int),.slice a n cap] 33)):=bel
 have g0:(w.alloc (.cells #[.int .i64 (W:Int),.slice a n cap] 33)).cell? ⟨w.heap.size,0,none⟩=some (.int .i64 (W:Int)):=by simp[go_sem]
 have g1:(w.alloc (.cells #[.int .i64 (W:Int),.slice a n cap] 33)).cell? ⟨w.heap.size,1,none⟩=some (.slice a n cap):=by simp[go_sem]
 clear hH hl hM HM
 go_enter SqG.func140,Tryz.ntmps140
 go_wp2
 obtain⟨w0,hw0⟩:∃ w0,w0=w.alloc (.cells #[.int .i64 (W:Int),.slice a n cap] 33):=⟨_,rfl⟩
 rw[<- hw0] at hb0 g0 g1 ⊢
 clear hw0
 go_loopw [7,8] (fun i l8 wr=>∃ k:Nat,k<=M/\i=.int .i64 k/\ofN W H x d k=-1/\Below w0.heap.size w0 wr) (fun i _ _=>M - (intOf i).toNat)
 case atStart=>exact⟨0,Nat.zero_le _,rfl,rfl,Below.refl _ _⟩
 case round =>
  obtain⟨k,hk,rfl,hno,hb⟩:=hrel
  have hz:=hb.size
  have hz0:=hb0.size
  replace g0:=zab hb g0;replace g1:=zab hb g1
  have HNO:Hid (ofN W H x d k=-1):=hno
  clear hno
  go_wp2_with fail
  refine(CM.out _).mono ?_
  rintro e w1 ⟨rfl,hb1⟩
  have hz1:=hb1.size
  have hB1:=zaj hb hb.size hb1
  replace g0:=zab hb1 g0;replace g1:=zab hb1 g1
  clear hb hb1
  by_cases hlt:k<M
  ·obtain⟨x2,d2,hs⟩:∃ x2 d2,zdq W H (k:Int)=(x2,d2):=⟨_,_,rfl⟩
   have HS:Hid (zdq W H (k:Int)=(x2,d2)):=hs
   have hd2:=zk7 _ _ _ _ _ hs
   have hdA:=hd2.1
   have hdB:=hd2.2
   clear hs
   go_wp2_with fail
   refine(ziz W H a n cap _ hW hH5 HL.out (k:Int) (by omega) x2 d2 HS.out).mono ?_
   rintro e w2 ⟨rfl,hb2⟩
   have hz2:=hb2.size
   have hB2:=zaj hB1 hB1.size hb2
   have hB3:Below w0.heap.size w0 (w2.alloc (.cells #[.int .i64 x2,.int .i64 d2] 144)):=hB2.alloc hB2.size _
   clear hb2
   by_cases e1:x2=x
   ·subst e1
    have b1:(x2 == x2)=true:=by simp
    by_cases e2:(d2+2) % 4=d
    ·have HV:Hid (ofN W H x2 d M=(k:Int)):=zrE W H x2 d k HNO.out x2 d2 HS.out rfl e2 M hlt
     have b2:((d2+2) % 4 == d)=true:=by simp[e2]
     clear e2
     go_wp2_with fail
     refine(zgP d2 hdA hdB _).mono ?_
     rintro e w' ⟨rfl,rfl⟩
     go_wp2
     go_ret
     exact⟨by rw[HV.out];rfl,zaj hb0 hb0.size hB3⟩
    ·have hv:=zkY W H x2 d k HNO.out x2 d2 HS.out (fun q=>e2 q.2)
     have b2:((d2+2) % 4 == d)=false:=by simp[e2]
     clear e2
     go_wp2_with fail
     refine(zgP d2 hdA hdB _).mono ?_
     rintro e w' ⟨rfl,rfl⟩
     go_wp2
     go_roundw
     case rel=>exact⟨k+1,by omega,by go_num,hv,hB3⟩
     case measure=>simp[intOf];omega
   ·have hv:=zkY W H x d k HNO.out x2 d2 HS.out (fun q=>e1 q.1)
    have b1:(x2 == x)=false:=by simp[e1]
    clear e1
    go_wp2
    go_roundw
    case rel=>exact⟨k+1,by omega,by go_num,hv,hB3⟩
    case measure=>simp[intOf];omega
  ·obtain rfl:k=M:=by omega
   go_wp2
   go_ret
   exact⟨by rw[HNO.out];rfl,zaj hb0 hb0.size hB1⟩
