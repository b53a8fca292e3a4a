/- Part. -/
import Derived.Deep.WholeRow
import Derived.LoopN
import Derived.Test.YthfhlgdeghnggaaGreatEAh
set_option maxHeartbeats 4000000
set_option maxRecDepth 100000
set_option linter.unusedVariables false
namespace Go.Proofs.YthfhlgdeghnggaaGreat
variable{wd:Int}{cs:Lp}{H W:Nat}{P:Program}
open Tryz
namespace Sp
variable{aLt:Nat->Func->Func}
open Go.RowKit
theorem zeQ(f m s o i u k:Int)(hf:0<=f/\f<=100)(hm:0<=m/\m<=100)(b:Bool)(hb:b=decide (f<=k/\k<f+m))(w:World) :
  Calls (SqG.prog aLt) 115 #[.agg #[J f,J m,J s,J o,J i,J u],J k] w (xB w (.bool b)):=by
 by_cases h1:f<=k
 ·by_cases h2:k<f+m
  ·have e1:b=true:=by rw[hb];exact decide_eq_true ⟨h1,h2⟩
   clear hb
   subst e1
   go_enter (zfx func115),ntmps115
   go_wp2
   go_ret
   exact⟨rfl,bel⟩
  ·have e1:b=false:=by rw[hb];exact decide_eq_false qg
   clear hb
   subst e1
   go_enter (zfx func115),ntmps115
   go_wp2
   go_ret
   exact⟨rfl,bel⟩
 ·have e1:b=false:=by rw[hb];exact decide_eq_false qg
  clear hb
  subst e1
  go_enter (zfx func115),ntmps115
  go_wp2
  go_ret
  exact⟨rfl,bel⟩
theorem zph(f m s o i u k:Int)(p x:Int)(hf:0<=f/\f<=100)(hk:0<=k/\k<=100)(hp:(k - f) * o=p)(h0:-100<=p/\p<=100)(hs:-100<=s/\s<=100)(hx:s+p=x)(w:World) :
  Calls (SqG.prog aLt) 127 #[.agg #[J f,J m,J s,J o,J i,J u],J k] w (xB w (.agg #[J x,J i])):=by
 have v1:IntKind.i64.wrap ((k - f) * o)=p:=by rw[hp];exact IntWalk.i64_in _ qg
 clear hp
 go_enter (zfx func127),ntmps127
 go_wp2
 refine bodyPost_ret (v:=.agg #[J x,J i]) (by simp[results,results127,go_sem]) rfl ⟨rfl,?_⟩
 exact bel
def zbS(W H n:Int):Array Value:=#[J (0),J (W),J (0),J (1),J (2),J (0),J (W),J (H),J (W - 1),J (W),J (3),J (1),J (W+H),J (W),J (n - 1),J (-1),J (0),J (2),J (W+H+W),J (H),J (n - 1 - W+1),J (-W),J (1),J (3)]
theorem zi1:((SqG.prog aLt).info? 137).map (·.size)=some 24:=qh
theorem znD:(SqG.prog aLt).underlying 137=some (.array 4 136):=qh
theorem zkS(W H n:Int):(zbS W H n).size=24:=rfl
theorem zng(W H n:Int):(zbS W H n).all (·.oneCell')=true:=qh
theorem zmH(W H n:Int)(w:World)(g:Nat)(hg:w.heap[g]?=some (.cells (zbS W H n) 137 (0,0))) :
  Sem.run (SqG.prog aLt) (loadVar 137 (O g 0)) w=.ok (.agg (zbS W H n)) w :=
 run_loadVar_row w g 137 137 (zbS W H n) (0,0) _ hg znD rfl (by rw[zi1,zkS])
theorem zkZ{w:World}{ops:Array Oper}{rest:List Oper}{o:Oper}{a:Act}{Q:Exit->Act->Wq}(h0:o.guard=none)(ty:TypeId)(x y:Operand)(ho:o.op=.store ty x y)(g:Nat)(cells:Array Value)(hx:a.eval x=.pointer (xA g))(hy:a.eval y=.agg cells)(t:TypeId)(old:Array Value)(hg:w.heap[g]?=some (.cells old t (0,0)))(hi:(P.info? ty).map (·.size)=some cells.size)(hold:old.size=cells.size)(h1:cells.all (·.oneCell')=true)(h:∀ w',w'.heap[g]?=some (.cells cells t (0,0))->(∀ B w0,Below B w0 w->B<=g->Below B w0 w')->wpList P ops Q rest (a.put o.dst undef) w'):wpList P ops Q (o::rest) a w :=
 wpList_plain h0 fun _ hK=>wp_store_row ty x y ho g cells hx hy t old hg hi hold h1 (hK _ _ (h _ (setRow_heap w g old cells t (0,0) hg) (fun _ _ hb hB=>below_setRow hb hB cells)))
theorem zb8(W H:Nat)(a:Od)(n cap:Nat)(w:World)(hW:1<=W/\W<=5)(h3:1<=H/\H<=5)(hn:n<=25)(hH:n / W=H) :
  Calls (SqG.prog aLt) 86 #[.agg (xG (W:Int) a n cap)] w (xB w (.agg (zbS W H n))):=by
 have HH:Hid (n / W=H):=hH
 have hg:=hW.1
 have hj:=hW.2
 have hk:=h3.2
 obtain⟨w0,h0⟩:∃ w0,w0=(w.alloc (.cells (xG (W:Int) a n cap) 33)).alloc (.cells #[J 0,J 0,J 0,J 0,J 0,J 0,J 0,J 0,J 0,J 0,J 0,J 0,J 0,J 0,J 0,J 0,J 0,J 0,J 0,J 0,J 0,J 0,J 0,J 0] 137):=⟨_,rfl⟩
 have h2:xE w w0:=by rw[h0];exact bel
 have g0:w0.cell? (xC w 0)=some (J (W:Int)):=by rw[h0];simp[go_sem]
 have g1:w0.cell? (xC w 1)=some (.slice a n cap):=by rw[h0];simp[go_sem]
 have h4:w0.heap.size=w.heap.size+2:=by rw[h0];simp[go_sem]
 have h5:w0.heap[w.heap.size+1]?=some (.cells #[J 0,J 0,J 0,J 0,J 0,J 0,J 0,J 0,J 0,J 0,J 0,J 0,J 0,J 0,J 0,J 0,J 0,J 0,J 0,J 0,J 0,J 0,J 0,J 0] 137 (0,0)):=by
  rw[h0]
  have:=heap_alloc_last (w.alloc (.cells (xG (W:Int) a n cap) 33)) (.cells #[J 0,J 0,J 0,J 0,J 0,J 0,J 0,J 0,J 0,J 0,J 0,J 0,J 0,J 0,J 0,J 0,J 0,J 0,J 0,J 0,J 0,J 0,J 0,J 0] 137)
  rwa [show (w.alloc (.cells (xG (W:Int) a n cap) 33)).heap.size=w.heap.size+1 by simp[go_sem]] at this
 have HH0:Hid (w0.heap[w.heap.size+1]?=some (.cells #[J 0,J 0,J 0,J 0,J 0,J 0,J 0,J 0,J 0,J 0,J 0,J 0,J 0,J 0,J 0,J 0,J 0,J 0,J 0,J 0,J 0,J 0,J 0,J 0] 137 (0,0))):=h5
 have HZ0:Hid (w0.heap.size=w.heap.size+2):=h4
 clear hH h5 h4
 go_enter (zfx func86),ntmps86
 go_wp2
 rw[<- h0]
 clear h0
 go_region_held3 (fun w'=>w'.cell? (xC w 0)=some (J (W:Int))/\w'.cell? (xC w 1)=some (.slice a n cap))
  (first
   | with_reducible exact⟨zaa h1 g0,zaa h1 g1⟩
   | go_keep)
  (first
   | (go_at_call 83;refine(zdo W H _ _ _ _ hW.1 qg HH.o).mono ?_;rintro e x0 ⟨rfl,hbC'⟩;have h1:xE w0 x0:=(by first|with_reducible exact hbC'|with_reducible exact zcq hbC'))
   | fail)
 have h6:x0.heap[w.heap.size+1]?=some (.cells #[J 0,J 0,J 0,J 0,J 0,J 0,J 0,J 0,J 0,J 0,J 0,J 0,J 0,J 0,J 0,J 0,J 0,J 0,J 0,J 0,J 0,J 0,J 0,J 0] 137 (0,0)):=(h1.block _ (by rw[HZ0.o];omega)).trans HH0.o
 have h7:=zae h2 h2.size h1
 clear h2 h1 hbC' g0 g1 HH0 HZ0 HH hW h3
 have HX:Hid (x0.heap[w.heap.size+1]?=some (.cells #[J 0,J 0,J 0,J 0,J 0,J 0,J 0,J 0,J 0,J 0,J 0,J 0,J 0,J 0,J 0,J 0,J 0,J 0,J 0,J 0,J 0,J 0,J 0,J 0] 137 (0,0))):=h6
 clear h6
 go_wp2_with (refine zkZ rfl 137 (.tmp 2) (.tmp 41) rfl (w.heap.size+1) (zbS (W:Int) (H:Int) (n:Int)) rfl rfl 137 _ HX.o zi1 rfl (zng _ _ _) ?_)
 intro x1 h8 h9
 have he:=h9 _ _ h7 qg
 go_wp2
 have hf:=zmH (aLt:=aLt) (W:Int) (H:Int) (n:Int) x1 (w.heap.size+1) h8
 refine bodyPost_ret (v:=.agg (zbS (W:Int) (H:Int) (n:Int))) ?_ rfl ⟨rfl,he⟩
 simp[results,results86,asAddr,hf]
def sa(f s o x:Int):Nat->Int
 | 0=>-1
 | n+1=>if sa f s o x n≠-1 then sa f s o x n else if s+(n:Int) * o=x then f+n else -1
theorem ztR(f s o x:Int)(hf:0<=f)(k:Nat)(h0:sa f s o x k=-1)(h1:s+(k:Int) * o=x)(m:Nat)(hm:k<m):sa f s o x m=f+k:=by
 induction m with
 | zero=>omega
 | succ m ih =>
  simp only[sa]
  by_cases e:k=m
  ·subst e
   rw[if_neg (by simp[h0]),if_pos h1]
  ·rw[ih qg,if_pos qg]
theorem zpp(f s o x:Int)(k:Nat)(h0:sa f s o x k=-1)(h1:¬ s+(k:Int) * o=x):sa f s o x (k+1)=-1:=by
 simp only[sa]
 rw[if_neg (by simp[h0]),if_neg h1]
theorem zqF(y i:Int)(w:World):Sem.run (SqG.prog aLt) (Instr.field 144 (.agg #[J y,J i]) 0) w=.ok (J y) w:=qh
theorem zkT(f m:Nat)(s o i u x:Int)(w:World)(hf:f<=50)(hm:m<=5)(hs:-50<=s/\s<=50)(ho:-5<=o/\o<=5) :
  Calls (SqG.prog aLt) 152 #[.agg #[J (f:Int),J (m:Int),J s,J o,J i,J u],J x] w (xB w (J (sa f s o x m))):=by
 have h1:xE w (w.alloc (.cells #[J (f:Int),J (m:Int),J s,J o,J i,J u] 136)):=bel
 have g0:(w.alloc (.cells #[J (f:Int),J (m:Int),J s,J o,J i,J u] 136)).cell? (xC w 0)=some (J (f:Int)):=ql
 have g1:(w.alloc (.cells #[J (f:Int),J (m:Int),J s,J o,J i,J u] 136)).cell? (xC w 1)=some (J (m:Int)):=ql
 have g2:(w.alloc (.cells #[J (f:Int),J (m:Int),J s,J o,J i,J u] 136)).cell? (xC w 2)=some (J s):=ql
 have g3:(w.alloc (.cells #[J (f:Int),J (m:Int),J s,J o,J i,J u] 136)).cell? (xC w 3)=some (J o):=ql
 have g4:(w.alloc (.cells #[J (f:Int),J (m:Int),J s,J o,J i,J u] 136)).cell? (xC w 4)=some (J i):=ql
 have g5:(w.alloc (.cells #[J (f:Int),J (m:Int),J s,J o,J i,J u] 136)).cell? (xC w 5)=some (J u):=ql
 go_enter (zfx func152),ntmps152
 go_wp2
 obtain⟨w0,h5⟩:∃ w0,w0=w.alloc (.cells #[J (f:Int),J (m:Int),J s,J o,J i,J u] 136):=⟨_,rfl⟩
 rw[<- h5] at h1 g0 g1 g2 g3 g4 g5 ⊢
 clear h5
 go_loopw [5] (fun k wr=>∃ K:Nat,f<=K/\K<=f+m/\k=J (K:Int)/\sa f s o x (K - f)=-1/\xE w0 wr) (fun k _=>f+m - (intOf k).toNat)
 case atStart=>exact⟨f,Nat.le_refl _,qg,rfl,by rw[Nat.sub_self];rfl,Below.refl _ _⟩
 case round =>
  obtain⟨K,h9,he,rfl,h6,hb⟩:=hrel
  have hz:=hb.size
  have hg:=h1.size
  replace g0:=zaa hb g0;replace g1:=zaa hb g1;replace g2:=zaa hb g2;replace g3:=zaa hb g3;replace g4:=zaa hb g4;replace g5:=zaa hb g5
  have HNO:Hid (sa f s o x (K - f)=-1):=h6
  clear h6
  by_cases hlt:K<f+m
  ·obtain⟨p,hp⟩:∃ p,((K:Int) - (f:Int)) * o=p:=⟨_,rfl⟩
   obtain⟨y,hy⟩:∃ y,s+p=y:=⟨_,rfl⟩
   have h7:-25<=p/\p<=25:=by
    rw[<- hp]
    obtain⟨t,ht⟩:∃ t:Nat,K=f+t:=⟨K - f,qg⟩
    have hj:t<5:=qg
    rw[show (K:Int) - (f:Int)=(t:Int) by omega]
    rcases (show t=0\/t=1\/t=2\/t=3\/t=4 by omega) with rfl|rfl|rfl|rfl|rfl <;> simp <;> omega
   have HP:Hid (((K:Int) - (f:Int)) * o=p):=hp
   have HY:Hid (s+p=y):=hy
   clear hp hy
   go_wp2_with fail
   refine(zeQ _ _ _ _ _ _ _ qg qg true (decide_eq_true qg).symm _).mono ?_
   rintro e w1 ⟨rfl,h0⟩
   have hk:=h0.size
   have h2:=zae hb hb.size h0
   replace g0:=zaa h0 g0;replace g1:=zaa h0 g1;replace g2:=zaa h0 g2;replace g3:=zaa h0 g3;replace g4:=zaa h0 g4;replace g5:=zaa h0 g5
   clear hb h0
   go_wp2_with fail
   refine(zph _ _ _ _ _ _ _ p y qg qg HP.o qg qg HY.o _).mono ?_
   rintro e w2 ⟨rfl,h4⟩
   have hl:=h4.size
   have h8:=zae h2 h2.size h4
   clear h4
   have h3:s+((K - f:Nat):Int) * o=y:=by
    rw[<- HY.o,<- HP.o]
    rw[show ((K - f:Nat):Int)=(K:Int) - (f:Int) by omega]
   have hq:=zqF (aLt:=aLt) y i
   by_cases e1:y=x
   ·have hv:sa f s o x m=(K:Int):=by
     rw[ztR f s o x qg (K - f) HNO.o (h3.trans e1) m qg]
     omega
    have HV:Hid (sa f s o x m=(K:Int)):=hv
    have b1:(y == x)=true:=by simp[e1]
    clear hv h3 HP HY h7
    subst e1
    go_wp2
    go_ret
    exact⟨by rw[HV.o];rfl,zae h1 h1.size h8⟩
   ·have hv:=zpp f s o x (K - f) HNO.o (fun q=>e1 (h3.symm.trans q))
    rw[show K - f+1=K+1 - f by omega] at hv
    have b1:(y == x)=false:=by simp[e1]
    have HV:Hid (sa f s o x (K+1 - f)=-1):=hv
    clear h3 e1 hv HP HY h7
    go_wp2
    go_roundw
    case rel=>exact⟨K+1,qg,qg,by go_num,HV.o,h8⟩
    case measure=>exact qe
  ·have hv:sa f s o x m=-1:=by
    rw[<- HNO.o]
    rw[show K - f=m by omega]
   have HV:Hid (sa f s o x m=-1):=hv
   clear hv
   go_wp2_with fail
   refine(zeQ _ _ _ _ _ _ _ qg qg false (decide_eq_false qg).symm _).mono ?_
   rintro e w1 ⟨rfl,h0⟩
   have h2:=zae hb hb.size h0
   clear hb h0
   go_wp2
   go_ret
   exact⟨by rw[HV.o];rfl,zae h1 h1.size h2⟩
theorem zcm(q f m s o i u:Int)(hq:0<=q/\q<=100)(hm:0<=m/\m<=100)(w:World) :
  Calls (SqG.prog aLt) 101 #[J q,.agg #[J f,J m,J s,J o,J i,J u]] w (xB w (J (q+m))):=by
 go_enter (zfx func101),ntmps101
 go_wp2
 go_ret
 exact⟨rfl,bel⟩
theorem znz(q:Int)(f m:Nat)(s o i u x d:Int)(bd bx:Nat)(w:World)(hf:f<=50)(hm:m<=5)(hs:-50<=s/\s<=50)(ho:-5<=o/\o<=5)(hd:w.cell? (O bd 0)=some (J d))(hx:w.cell? (O bx 0)=some (J x))(v:Int)(hv:v=if u=d then sa f s o x m else q) :
  Calls (SqG.prog aLt) 151 #[J q,.agg #[J (f:Int),J (m:Int),J s,J o,J i,J u],.pointer (xA bd),.pointer (xA bx)] w (xB w (J v)):=by
 have h0:xE w (w.alloc (.cells #[J (f:Int),J (m:Int),J s,J o,J i,J u] 136)):=bel
 have h2:=zaa h0 hd
 have h3:=zaa h0 hx
 have g5:(w.alloc (.cells #[J (f:Int),J (m:Int),J s,J o,J i,J u] 136)).cell? (xC w 5)=some (J u):=ql
 by_cases e1:u=d
 ·rw[if_pos e1] at hv
  have HV:Hid (v=sa f s o x m):=hv
  have b1:(u == d)=true:=by simp[e1]
  clear hv e1
  go_enter (zfx func151),ntmps151
  go_wp2_with fail
  refine(zkT f m s o i u x _ hf hm hs ho).mono ?_
  rintro e w1 ⟨rfl,h1⟩
  rw[<- HV.o]
  go_wp2
  go_ret
  exact⟨rfl,zae h0 h0.size h1⟩
 ·rw[if_neg e1] at hv
  subst hv
  have b1:(u == d)=false:=by simp[e1]
  clear e1
  go_enter (zfx func151),ntmps151
  go_wp2
  go_ret
  exact⟨rfl,h0⟩
theorem zk6(qx qd:Int)(qb:Bool)(f m:Nat)(s o i u k:Int)(bk:Nat)(w:World)(hf:f<=50)(hm:m<=5)(hs:-50<=s/\s<=50)(ho:-5<=o/\o<=5)(hk:w.cell? (O bk 0)=some (J k))(vx vd:Int)(vb:Bool)(hv:(vx,vd,vb)=if (f:Int)<=k/\k<(f:Int)+(m:Int) then (s+(k - (f:Int)) * o,i,true) else (qx,qd,qb)) :
  Calls (SqG.prog aLt) 126 #[.agg #[J qx,J qd,.bool qb],.agg #[J (f:Int),J (m:Int),J s,J o,J i,J u],.pointer (xA bk)] w (xB w (.agg #[J vx,J vd,.bool vb])):=by
 obtain⟨w0,h2⟩:∃ w0,w0=((w.alloc (.cells #[J qx,J qd,.bool qb] 192)).alloc (.cells #[J (f:Int),J (m:Int),J s,J o,J i,J u] 136)).alloc (.cells #[J 0,J 0,.bool false] 192):=⟨_,rfl⟩
 have h4:xE w w0:=by rw[h2];exact bel
 have h5:=zaa h4 hk
 have h7:=h5
 rw[h2] at h7
 have a0:w0.cell? (xC w 0)=some (J qx):=by rw[h2];simp[go_sem]
 have a1:w0.cell? (xC w 1)=some (J qd):=by rw[h2];simp[go_sem]
 have a2:w0.cell? (xC w 2)=some (.bool qb):=by rw[h2];simp[go_sem]
 have g0:w0.cell? (xD w 1 0)=some (J (f:Int)):=by rw[h2];simp[go_sem]
 have g1:w0.cell? (xD w 1 1)=some (J (m:Int)):=by rw[h2];simp[go_sem]
 have g2:w0.cell? (xD w 1 2)=some (J s):=by rw[h2];simp[go_sem]
 have g3:w0.cell? (xD w 1 3)=some (J o):=by rw[h2];simp[go_sem]
 have g4:w0.cell? (xD w 1 4)=some (J i):=by rw[h2];simp[go_sem]
 have g5:w0.cell? (xD w 1 5)=some (J u):=by rw[h2];simp[go_sem]
 have r0:w0.cell? (O (w.heap.size+1+1) 0)=some (J 0):=by rw[h2];simp[go_sem]
 have r1:w0.cell? (O (w.heap.size+1+1) 1)=some (J 0):=by rw[h2];simp[go_sem]
 have r2:w0.cell? (O (w.heap.size+1+1) 2)=some (.bool false):=by rw[h2];simp[go_sem]
 have f0:w0.frozen? (O (w.heap.size+1+1) 0)=false:=by rw[h2];simp[go_sem]
 have f1:w0.frozen? (O (w.heap.size+1+1) 1)=false:=by rw[h2];simp[go_sem]
 have f2:w0.frozen? (O (w.heap.size+1+1) 2)=false:=by rw[h2];simp[go_sem]
 have he:w.heap.size+3<=w0.heap.size:=by rw[h2];simp[go_sem]
 by_cases e1:(f:Int)<=k/\k<(f:Int)+(m:Int)
 ·rw[if_pos e1] at hv
  simp only[Prod.mk.injEq] at hv
  obtain⟨h1,rfl,rfl⟩:=hv
  obtain⟨p,hp⟩:∃ p,(k - (f:Int)) * o=p:=⟨_,rfl⟩
  have hg:-25<=p/\p<=25:=by
   rw[<- hp]
   obtain⟨t,ht⟩:∃ t:Nat,k=(f:Int)+(t:Int):=⟨(k - f).toNat,qg⟩
   have hj:t<5:=qg
   rw[show k - (f:Int)=(t:Int) by omega]
   rcases (show t=0\/t=1\/t=2\/t=3\/t=4 by omega) with rfl|rfl|rfl|rfl|rfl <;> simp <;> omega
  rw[hp] at h1
  have HP:Hid ((k - (f:Int)) * o=p):=hp
  have HY:Hid (s+p=vx):=h1.symm
  have HE:Hid ((f:Int)<=k/\k<(f:Int)+(m:Int)):=e1
  clear hp h1 e1
  go_enter (zfx func126),ntmps126
  go_wp2_with fail
  rw[<- h2]
  clear h2 h7
  refine(zeQ _ _ _ _ _ _ _ qg qg true (decide_eq_true HE.o).symm _).mono ?_
  rintro e w1 ⟨rfl,h0⟩
  have h8:=h0.size
  have h6:=zae h4 h4.size h0
  replace f0:=zak h0 r0 f0
  replace f1:=zak h0 r1 f1
  replace f2:=zak h0 r2 f2
  replace h5:=zaa h0 h5;replace g0:=zaa h0 g0;replace g1:=zaa h0 g1;replace g2:=zaa h0 g2;replace g3:=zaa h0 g3;replace g4:=zaa h0 g4;replace g5:=zaa h0 g5;replace r0:=zaa h0 r0;replace r1:=zaa h0 r1;replace r2:=zaa h0 r2
  clear h4 h0 a0 a1 a2
  go_wp2_with fail
  refine(zph _ _ _ _ _ _ _ p vx qg (by have:=HE.o;omega) HP.o qg qg HY.o _).mono ?_
  rintro e w2 ⟨rfl,h3⟩
  have hl:=h3.size
  have h9:=zae h6 h6.size h3
  replace f0:=zak h3 r0 f0
  replace f1:=zak h3 r1 f1
  replace f2:=zak h3 r2 f2
  replace r0:=zaa h3 r0;replace r1:=zaa h3 r1;replace r2:=zaa h3 r2
  clear h3 h6 g0 g1 g2 g3 g4 g5 h5
  go_wp2
  refine bodyPost_ret (v:=.agg #[J vx,J vd,.bool true]) (by simp[results,results126,go_sem,r0,r1,r2]) rfl ⟨rfl,?_⟩
  repeat (refine Below.setCell ?_ qu _)
  exact h9
 ·rw[if_neg e1] at hv
  simp only[Prod.mk.injEq] at hv
  obtain⟨rfl,rfl,rfl⟩:=hv
  have HE:Hid (¬ ((f:Int)<=k/\k<(f:Int)+(m:Int))):=e1
  clear e1
  go_enter (zfx func126),ntmps126
  go_wp2_with fail
  rw[<- h2]
  clear h2 h7
  refine(zeQ _ _ _ _ _ _ _ qg qg false (decide_eq_false HE.o).symm _).mono ?_
  rintro e w1 ⟨rfl,h0⟩
  have h8:=h0.size
  have h6:=zae h4 h4.size h0
  replace f0:=zak h0 r0 f0
  replace f1:=zak h0 r1 f1
  replace f2:=zak h0 r2 f2
  replace a0:=zaa h0 a0;replace a1:=zaa h0 a1;replace a2:=zaa h0 a2;replace r0:=zaa h0 r0;replace r1:=zaa h0 r1;replace r2:=zaa h0 r2
  clear h4 h0 h5 g0 g1 g2 g3 g4 g5
  go_wp2
  refine bodyPost_ret (v:=.agg #[J vx,J vd,.bool vb]) (by simp[results,results126,go_sem,r0,r1,r2]) rfl ⟨rfl,?_⟩
  repeat (refine Below.setCell ?_ qu _)
  exact h6
theorem zhY(W H n:Int)(w:World):Sem.run (SqG.prog aLt) (Instr.index 137 (.agg (zbS W H n)) (J 0)) w=.ok (.agg #[J (0),J (W),J (0),J (1),J (2),J (0)]) w:=qh
theorem zhZ(W H n:Int)(w:World):Sem.run (SqG.prog aLt) (Instr.index 137 (.agg (zbS W H n)) (J 1)) w=.ok (.agg #[J (W),J (H),J (W - 1),J (W),J (3),J (1)]) w:=qh
theorem zh0(W H n:Int)(w:World):Sem.run (SqG.prog aLt) (Instr.index 137 (.agg (zbS W H n)) (J 2)) w=.ok (.agg #[J (W+H),J (W),J (n - 1),J (-1),J (0),J (2)]) w:=qh
theorem zh1(W H n:Int)(w:World):Sem.run (SqG.prog aLt) (Instr.index 137 (.agg (zbS W H n)) (J 3)) w=.ok (.agg #[J (W+H+W),J (H),J (n - 1 - W+1),J (-W),J (1),J (3)]) w:=qh
theorem zoy(W H:Nat)(a:Od)(cap:Nat)(cs:Lp)(w:World)(h:zaf w a cs)(h6:okG (W:Int) cs=true)(hW:1<=W/\W<=5)(h1:1<=H/\H<=5)(hn:cs.length<=25)(hH:cs.length / W=H) :
  Calls (SqG.prog aLt) 100 #[.agg (xG (W:Int) a cs.length cap),J 0,.func (.func 101) #[] #[]] w (xB w (J ((W:Int)+(H:Int)+(W:Int)+(H:Int)))):=by
 have HH:Hid (cs.length / W=H):=hH
 have hs:=hW.1
 have hu:=hW.2
 have hw:=h1.1
 have hy:=h1.2
 clear hH
 go_enter (zfx func100),ntmps100
 go_wp2_with fail
 refine(zar _ _ _ cs _ (h.below bel) qg).mono ?_
 rintro e x0 ⟨rfl,h0⟩
 have g0:x0.cell? (xC w 0)=some (J (W:Int)):=zaa h0 ql
 have g1:x0.cell? (xC w 1)=some (.slice a cs.length cap):=zaa h0 ql
 have h7:=h0.size
 simp at h7
 have h8:xE w x0:=zae bel qm h0
 clear h0
 go_wp2_with fail
 refine(zb8 W H a cs.length cap _ hW h1 hn HH.o).mono ?_
 rintro e x1 ⟨rfl,h2⟩
 have hz:=h2.size
 have h9:xE w x1:=zae h8 qg h2
 clear h2 g0 g1 HH h6 h hW h1
 have i0:=zhY (aLt:=aLt) (W:Int) (H:Int) (cs.length:Int)
 have i1:=zhZ (aLt:=aLt) (W:Int) (H:Int) (cs.length:Int)
 have i2:=zh0 (aLt:=aLt) (W:Int) (H:Int) (cs.length:Int)
 have i3:=zh1 (aLt:=aLt) (W:Int) (H:Int) (cs.length:Int)
 go_wp2_with fail
 refine wp_loop_rounds 5 ?_
 rw[rounds_succ]
 go_wp2_with fail
 refine(zcm _ _ _ _ _ _ _ qg qg _).mono ?_
 rintro e x2 ⟨rfl,hc2⟩
 have he:=hc2.size
 simp at he
 have hf:xE w x2:=zae (h9.alloc qg _) qn hc2
 clear hc2
 go_wp2_with fail
 rw[rounds_succ]
 go_wp2_with fail
 refine(zcm _ _ _ _ _ _ _ qg qg _).mono ?_
 rintro e x3 ⟨rfl,h3⟩
 have hg:=h3.size
 simp at hg
 have hj:xE w x3:=zae (hf.alloc qg _) qn h3
 clear h3
 go_wp2_with fail
 rw[rounds_succ]
 go_wp2_with fail
 refine(zcm _ _ _ _ _ _ _ qg qg _).mono ?_
 rintro e x4 ⟨rfl,h4⟩
 have hk:=h4.size
 simp at hk
 have hl:xE w x4:=zae (hj.alloc qg _) qn h4
 clear h4
 go_wp2_with fail
 rw[rounds_succ]
 go_wp2_with fail
 refine(zcm _ _ _ _ _ _ _ qg qg _).mono ?_
 rintro e x5 ⟨rfl,h5⟩
 have hp:=h5.size
 simp at hp
 have hq:xE w x5:=zae (hl.alloc qg _) qn h5
 clear h5
 go_wp2_with fail
 rw[rounds_succ]
 go_wp2_with fail
 go_ret
 exact⟨rfl,hq⟩
theorem zdJ(q f:Int)(m:Nat)(s o i u x d:Int)(bd bx:Nat)(w:World)(hf:0<=f/\f<=50)(hm:m<=5)(hs:-50<=s/\s<=50)(ho:-5<=o/\o<=5)(hd:w.cell? (O bd 0)=some (J d))(hx:w.cell? (O bx 0)=some (J x))(v:Int)(hv:v=if u=d then sa f s o x m else q) :
  Calls (SqG.prog aLt) 151 #[J q,.agg #[J f,J (m:Int),J s,J o,J i,J u],.pointer (xA bd),.pointer (xA bx)] w (xB w (J v)):=by
 obtain⟨F,rfl⟩:=Int.eq_ofNat_of_zero_le hf.1
 exact znz q F m s o i u x d bd bx w qg hm hs ho hd hx v hv
def of0(W:Nat)(x d:Int):Int:=if 0=d then sa 0 0 1 x W else -1
def of1(W H:Nat)(x d:Int):Int:=if 1=d then sa (W:Int) ((W:Int) - 1) (W:Int) x H else of0 W x d
def of2(W H n:Nat)(x d:Int):Int:=if 2=d then sa ((W:Int)+(H:Int)) ((n:Int) - 1) (-1) x W else of1 W H x d
def of3(W H n:Nat)(x d:Int):Int:=if 3=d then sa ((W:Int)+(H:Int)+(W:Int)) ((n:Int) - 1 - (W:Int)+1) (-(W:Int)) x H else of2 W H n x d
theorem zsK(W H:Nat)(a:Od)(cap:Nat)(cs:Lp)(w:World)(h:zaf w a cs)(he:okG (W:Int) cs=true)(hW:1<=W/\W<=5)(h1:1<=H/\H<=5)(hn:cs.length<=25)(hH:cs.length / W=H)(x d:Int)(bd bx:Nat)(hd:w.cell? (O bd 0)=some (J d))(hx:w.cell? (O bx 0)=some (J x)) :
  Calls (SqG.prog aLt) 100 #[.agg (xG (W:Int) a cs.length cap),J (-1),.func (.func 151) #[] #[.pointer (xA bd),.pointer (xA bx)]] w (xB w (J (of3 W H cs.length x d))):=by
 have HH:Hid (cs.length / W=H):=hH
 have hs:=hW.1
 have hu:=hW.2
 have hw:=h1.1
 have hy:=h1.2
 have hz:0<=(cs.length:Int):=qg
 have hA:(cs.length:Int)<=25:=qg
 clear hH
 obtain⟨v0,ev0⟩:∃ v,v=of0 W x d:=⟨_,rfl⟩
 obtain⟨v1,ev1⟩:∃ v,v=of1 W H x d:=⟨_,rfl⟩
 obtain⟨v2,ev2⟩:∃ v,v=of2 W H cs.length x d:=⟨_,rfl⟩
 obtain⟨v3,ev3⟩:∃ v,v=of3 W H cs.length x d:=⟨_,rfl⟩
 rw[<- ev3]
 have EV0:Hid (v0=if 0=d then sa 0 0 1 x W else -1):=ev0
 have EV1:Hid (v1=if 1=d then sa (W:Int) ((W:Int) - 1) (W:Int) x H else v0):=by show _=_;rw[ev0];exact ev1
 have EV2:Hid (v2=if 2=d then sa ((W:Int)+(H:Int)) ((cs.length:Int) - 1) (-1) x W else v1):=by show _=_;rw[ev1];exact ev2
 have EV3:Hid (v3=if 3=d then sa ((W:Int)+(H:Int)+(W:Int)) ((cs.length:Int) - 1 - (W:Int)+1) (-(W:Int)) x H else v2):=by show _=_;rw[ev2];exact ev3
 clear ev0 ev1 ev2 ev3
 go_enter (zfx func100),ntmps100
 go_wp2_with fail
 refine(zar _ _ _ cs _ (h.below bel) qg).mono ?_
 rintro e x0 ⟨rfl,h0⟩
 have g0:x0.cell? (xC w 0)=some (J (W:Int)):=zaa h0 ql
 have g1:x0.cell? (xC w 1)=some (.slice a cs.length cap):=zaa h0 ql
 have hf:=h0.size
 simp at hf
 have hg:xE w x0:=zae bel qm h0
 clear h0
 go_wp2_with fail
 refine(zb8 W H a cs.length cap _ hW h1 hn HH.o).mono ?_
 rintro e x1 ⟨rfl,h2⟩
 have hD:=h2.size
 have h3:xE w x1:=zae hg qg h2
 clear h2 g0 g1 HH he h hW h1
 have i0:=zhY (aLt:=aLt) (W:Int) (H:Int) (cs.length:Int)
 have i1:=zhZ (aLt:=aLt) (W:Int) (H:Int) (cs.length:Int)
 have i2:=zh0 (aLt:=aLt) (W:Int) (H:Int) (cs.length:Int)
 have i3:=zh1 (aLt:=aLt) (W:Int) (H:Int) (cs.length:Int)
 go_wp2_with fail
 refine wp_loop_rounds 5 ?_
 rw[rounds_succ]
 go_wp2_with fail
 refine(zdJ _ _ W _ _ _ _ x d bd bx _ qg qg qg qg ((h3.alloc qg _).cell (World.block_lt_of_cell? w _ hd) |>.trans hd) ((h3.alloc qg _).cell (World.block_lt_of_cell? w _ hx) |>.trans hx) _ EV0.o).mono ?_
 rintro e x2 ⟨rfl,hc2⟩
 have hj:=hc2.size
 simp at hj
 have h4:xE w x2:=zae (h3.alloc qg _) qn hc2
 clear hc2
 go_wp2_with fail
 rw[rounds_succ]
 go_wp2_with fail
 refine(zdJ _ _ H _ _ _ _ x d bd bx _ qg qg qg qg ((h4.alloc qg _).cell (World.block_lt_of_cell? w _ hd) |>.trans hd) ((h4.alloc qg _).cell (World.block_lt_of_cell? w _ hx) |>.trans hx) _ EV1.o).mono ?_
 rintro e x3 ⟨rfl,h5⟩
 have hk:=h5.size
 simp at hk
 have h6:xE w x3:=zae (h4.alloc qg _) qn h5
 clear h5
 go_wp2_with fail
 rw[rounds_succ]
 go_wp2_with fail
 refine(zdJ _ _ W _ _ _ _ x d bd bx _ qg qg qg qg ((h6.alloc qg _).cell (World.block_lt_of_cell? w _ hd) |>.trans hd) ((h6.alloc qg _).cell (World.block_lt_of_cell? w _ hx) |>.trans hx) _ EV2.o).mono ?_
 rintro e x4 ⟨rfl,h7⟩
 have hl:=h7.size
 simp at hl
 have h8:xE w x4:=zae (h6.alloc qg _) qn h7
 clear h7
 go_wp2_with fail
 rw[rounds_succ]
 go_wp2_with fail
 refine(zdJ _ _ H _ _ _ _ x d bd bx _ qg qg qg qg ((h8.alloc qg _).cell (World.block_lt_of_cell? w _ hd) |>.trans hd) ((h8.alloc qg _).cell (World.block_lt_of_cell? w _ hx) |>.trans hx) _ EV3.o).mono ?_
 rintro e x5 ⟨rfl,h9⟩
 have hp:=h9.size
 simp at hp
 have hq:xE w x5:=zae (h8.alloc qg _) qn h9
 clear h9
 go_wp2_with fail
 rw[rounds_succ]
 go_wp2_with fail
 go_ret
 exact⟨rfl,hq⟩
theorem ziV(wd:Int)(a:Od)(cap:Nat)(cs:Lp)(w:World)(h:zaf w a cs)(h2:okG wd cs=false)(hm:cs.length<=1048576)(q:Int)(t:Value) :
  Calls (SqG.prog aLt) 100 #[.agg (xG wd a cs.length cap),J q,t] w (xB w (J q)):=by
 go_enter (zfx func100),ntmps100
 go_wp2_with fail
 refine(zar _ _ _ cs _ (h.below bel) qg).mono ?_
 rintro e x0 ⟨rfl,h0⟩
 have h1:xE w x0:=zae bel qm h0
 clear h0
 go_wp2_with fail
 go_ret
 exact⟨rfl,h1⟩
theorem zcY(qx qd:Int)(qb:Bool)(f:Int)(m:Nat)(s o i u k:Int)(bk:Nat)(w:World)(hf:0<=f/\f<=50)(hm:m<=5)(hs:-50<=s/\s<=50)(ho:-5<=o/\o<=5)(hk:w.cell? (O bk 0)=some (J k))(vx vd:Int)(vb:Bool)(hv:(vx,vd,vb)=if f<=k/\k<f+(m:Int) then (s+(k - f) * o,i,true) else (qx,qd,qb)) :
  Calls (SqG.prog aLt) 126 #[.agg #[J qx,J qd,.bool qb],.agg #[J f,J (m:Int),J s,J o,J i,J u],.pointer (xA bk)] w (xB w (.agg #[J vx,J vd,.bool vb])):=by
 obtain⟨F,rfl⟩:=Int.eq_ofNat_of_zero_le hf.1
 exact zk6 qx qd qb F m s o i u k bk w qg hm hs ho hk vx vd vb hv
def in0(W:Nat)(k:Int):Int × Int × Bool:=if 0<=k/\k<0+(W:Int) then (0+(k - 0) * 1,2,true) else (0,0,false)
def in1(W H:Nat)(k:Int):Int × Int × Bool:=if (W:Int)<=k/\k<(W:Int)+(H:Int) then ((W:Int) - 1+(k - (W:Int)) * (W:Int),3,true) else in0 W k
def in2(W H n:Nat)(k:Int):Int × Int × Bool:=if (W:Int)+(H:Int)<=k/\k<(W:Int)+(H:Int)+(W:Int) then ((n:Int) - 1+(k - ((W:Int)+(H:Int))) * (-1),0,true) else in1 W H k
def in3(W H n:Nat)(k:Int):Int × Int × Bool:=if (W:Int)+(H:Int)+(W:Int)<=k/\k<(W:Int)+(H:Int)+(W:Int)+(H:Int) then ((n:Int) - 1 - (W:Int)+1+(k - ((W:Int)+(H:Int)+(W:Int))) * (-(W:Int)),1,true) else in2 W H n k
theorem zqN(W H:Nat)(a:Od)(cap:Nat)(cs:Lp)(w:World)(h:zaf w a cs)(hG:okG (W:Int) cs=true)(hW:1<=W/\W<=5)(he:1<=H/\H<=5)(hn:cs.length<=25)(hH:cs.length / W=H)(k:Int)(bk:Nat)(hk:w.cell? (O bk 0)=some (J k))(a3 b3:Int)(c3:Bool)(hv:in3 W H cs.length k=(a3,b3,c3)) :
  Calls (SqG.prog aLt) 125 #[.agg (xG (W:Int) a cs.length cap),.agg #[J 0,J 0,.bool false],.func (.func 126) #[] #[.pointer (xA bk)]] w (xB w (.agg #[J a3,J b3,.bool c3])):=by
 have HH:Hid (cs.length / W=H):=hH
 have hT:=hW.1
 have hU:=hW.2
 have hV:=he.1
 have hX:=he.2
 have hY:0<=(cs.length:Int):=qg
 have hZ:(cs.length:Int)<=25:=qg
 clear hH
 obtain⟨a0,b0,c0,ev0⟩:∃ a b c,in0 W k=(a,b,c):=⟨_,_,_,rfl⟩
 obtain⟨a1,b1,c1,ev1⟩:∃ a b c,in1 W H k=(a,b,c):=⟨_,_,_,rfl⟩
 obtain⟨a2,b2,c2,ev2⟩:∃ a b c,in2 W H cs.length k=(a,b,c):=⟨_,_,_,rfl⟩
 have EV0:Hid ((a0,b0,c0)=if 0<=k/\k<0+(W:Int) then (0+(k - 0) * 1,2,true) else (0,0,false)):=ev0.symm
 have EV1:Hid ((a1,b1,c1)=if (W:Int)<=k/\k<(W:Int)+(H:Int) then ((W:Int) - 1+(k - (W:Int)) * (W:Int),3,true) else (a0,b0,c0)):=by show _=_;rw[<- ev0];exact ev1.symm
 have EV2:Hid ((a2,b2,c2)=if (W:Int)+(H:Int)<=k/\k<(W:Int)+(H:Int)+(W:Int) then ((cs.length:Int) - 1+(k - ((W:Int)+(H:Int))) * (-1),0,true) else (a1,b1,c1)):=by show _=_;rw[<- ev1];exact ev2.symm
 have EV3:Hid ((a3,b3,c3)=if (W:Int)+(H:Int)+(W:Int)<=k/\k<(W:Int)+(H:Int)+(W:Int)+(H:Int) then ((cs.length:Int) - 1 - (W:Int)+1+(k - ((W:Int)+(H:Int)+(W:Int))) * (-(W:Int)),1,true) else (a2,b2,c2)):=by show _=_;rw[<- ev2];exact hv.symm
 clear ev0 ev1 ev2 hv
 go_enter (zfx func125),ntmps125
 go_wp2_with fail
 refine(zar _ _ _ cs _ (h.below bel) qg).mono ?_
 rintro e x0 ⟨rfl,h0⟩
 have g0:x0.cell? (xC w 0)=some (J (W:Int)):=zaa h0 ql
 have g1:x0.cell? (xC w 1)=some (.slice a cs.length cap):=zaa h0 ql
 have q0:x0.cell? (xD w 1 0)=some (J 0):=zaa h0 ql
 have q1:x0.cell? (xD w 1 1)=some (J 0):=zaa h0 ql
 have q2:x0.cell? (xD w 1 2)=some (.bool false):=zaa h0 ql
 have r0:x0.cell? (O (w.heap.size+1+1) 0)=some (J 0):=zaa h0 ql
 have r1:x0.cell? (O (w.heap.size+1+1) 1)=some (J 0):=zaa h0 ql
 have r2:x0.cell? (O (w.heap.size+1+1) 2)=some (.bool false):=zaa h0 ql
 have f0:x0.frozen? (xD w 1 0)=false:=zak h0 (v:=J 0) ql ql
 have f1:x0.frozen? (xD w 1 1)=false:=zak h0 (v:=J 0) ql ql
 have f2:x0.frozen? (xD w 1 2)=false:=zak h0 (v:=.bool false) ql ql
 have e0:x0.frozen? (O (w.heap.size+1+1) 0)=false:=zak h0 (v:=J 0) ql ql
 have e1:x0.frozen? (O (w.heap.size+1+1) 1)=false:=zak h0 (v:=J 0) ql ql
 have e2:x0.frozen? (O (w.heap.size+1+1) 2)=false:=zak h0 (v:=.bool false) ql ql
 have hJ:=h0.size
 simp at hJ
 have hK:xE w x0:=zae bel qu h0
 clear h0
 go_wp2_with fail
 refine(zb8 W H a cs.length cap _ hW he hn HH.o).mono ?_
 rintro e x1 ⟨rfl,h5⟩
 have p0:=h5.size
 have hu:xE w x1:=zae hK qg h5
 replace f0:=zak h5 q0 f0;replace f1:=zak h5 q1 f1;replace f2:=zak h5 q2 f2;replace e0:=zak h5 r0 e0;replace e1:=zak h5 r1 e1;replace e2:=zak h5 r2 e2;replace q0:=zaa h5 q0;replace q1:=zaa h5 q1;replace q2:=zaa h5 q2;replace r0:=zaa h5 r0;replace r1:=zaa h5 r1;replace r2:=zaa h5 r2
 clear h5 g0 g1 HH hG h hW he
 have i0:=zhY (aLt:=aLt) (W:Int) (H:Int) (cs.length:Int)
 have i1:=zhZ (aLt:=aLt) (W:Int) (H:Int) (cs.length:Int)
 have i2:=zh0 (aLt:=aLt) (W:Int) (H:Int) (cs.length:Int)
 have i3:=zh1 (aLt:=aLt) (W:Int) (H:Int) (cs.length:Int)
 go_wp2_with fail
 refine wp_loop_rounds 5 ?_
 have hf:xE x1 (x1.alloc (.cells #[J (0),J ((W:Int)),J (0),J (1),J (2),J (0)] 136)):=(Below.refl _ _).alloc (Nat.le_refl _) _
 have s0:=zaa hf q0
 have s1:=zaa hf q1
 have s2:=zaa hf q2
 clear hf
 rw[rounds_succ]
 go_wp2_with fail
 clear s0 s1 s2
 refine(zcY _ _ _ _ W _ _ _ _ k bk _ qg qg qg qg ((hu.alloc qg _).cell (World.block_lt_of_cell? w _ hk) |>.trans hk) _ _ _ EV0.o).mono ?_
 rintro e x2 ⟨rfl,hc2⟩
 have hL:=hc2.size
 simp at hL
 have hw:xE w x2:=zae (hu.alloc qg _) qn hc2
 have h6:xE x1 x2:=zae ((Below.refl _ _).alloc (Nat.le_refl _) _) qm hc2
 replace f0:=zak h6 q0 f0;replace f1:=zak h6 q1 f1;replace f2:=zak h6 q2 f2;replace e0:=zak h6 r0 e0;replace e1:=zak h6 r1 e1;replace e2:=zak h6 r2 e2;replace q0:=zaa h6 q0;replace q1:=zaa h6 q1;replace q2:=zaa h6 q2;replace r0:=zaa h6 r0;replace r1:=zaa h6 r1;replace r2:=zaa h6 r2
 clear hc2 h6
 go_wp2_with fail
 obtain⟨y1,h1⟩:∃ y,y=((x2.setCell (xD w 1 0) (J a0)).setCell (xD w 1 1) (J b0)).setCell (xD w 1 2) (.bool c0):=⟨_,rfl⟩
 rw[<- h1]
 have hy:xE w y1:=by
  rw[h1]
  exact((hw.setCell (p:=(xD w 1 0)) qm _).setCell (p:=(xD w 1 1)) qm _).setCell (p:=(xD w 1 2)) qm _
 have p1:x2.heap.size<=y1.heap.size:=by rw[h1];simp[go_sem]
 replace q0:y1.cell? (xD w 1 0)=some (J a0):=by rw[h1];simp[go_sem,q0]
 replace q1:y1.cell? (xD w 1 1)=some (J b0):=by rw[h1];simp[go_sem,q1]
 replace q2:y1.cell? (xD w 1 2)=some (.bool c0):=by rw[h1];simp[go_sem,q2]
 replace r0:y1.cell? (O (w.heap.size+1+1) 0)=some (J 0):=by rw[h1];simp[go_sem,r0]
 replace r1:y1.cell? (O (w.heap.size+1+1) 1)=some (J 0):=by rw[h1];simp[go_sem,r1]
 replace r2:y1.cell? (O (w.heap.size+1+1) 2)=some (.bool false):=by rw[h1];simp[go_sem,r2]
 replace f0:y1.frozen? (xD w 1 0)=false:=by rw[h1];simp[go_sem,f0]
 replace f1:y1.frozen? (xD w 1 1)=false:=by rw[h1];simp[go_sem,f1]
 replace f2:y1.frozen? (xD w 1 2)=false:=by rw[h1];simp[go_sem,f2]
 replace e0:y1.frozen? (O (w.heap.size+1+1) 0)=false:=by rw[h1];simp[go_sem,e0]
 replace e1:y1.frozen? (O (w.heap.size+1+1) 1)=false:=by rw[h1];simp[go_sem,e1]
 replace e2:y1.frozen? (O (w.heap.size+1+1) 2)=false:=by rw[h1];simp[go_sem,e2]
 clear h1 hw
 have hg:xE y1 (y1.alloc (.cells #[J ((W:Int)),J ((H:Int)),J ((W:Int) - 1),J ((W:Int)),J (3),J (1)] 136)):=(Below.refl _ _).alloc (Nat.le_refl _) _
 have s0:=zaa hg q0
 have s1:=zaa hg q1
 have s2:=zaa hg q2
 clear hg
 rw[rounds_succ]
 go_wp2_with fail
 clear s0 s1 s2
 refine(zcY _ _ _ _ H _ _ _ _ k bk _ qg qg qg qg ((hy.alloc qg _).cell (World.block_lt_of_cell? w _ hk) |>.trans hk) _ _ _ EV1.o).mono ?_
 rintro e x3 ⟨rfl,hj⟩
 have hM:=hj.size
 simp at hM
 have hz:xE w x3:=zae (hy.alloc qg _) qn hj
 have h7:xE y1 x3:=zae ((Below.refl _ _).alloc (Nat.le_refl _) _) qm hj
 replace f0:=zak h7 q0 f0;replace f1:=zak h7 q1 f1;replace f2:=zak h7 q2 f2;replace e0:=zak h7 r0 e0;replace e1:=zak h7 r1 e1;replace e2:=zak h7 r2 e2;replace q0:=zaa h7 q0;replace q1:=zaa h7 q1;replace q2:=zaa h7 q2;replace r0:=zaa h7 r0;replace r1:=zaa h7 r1;replace r2:=zaa h7 r2
 clear hj h7
 go_wp2_with fail
 obtain⟨y2,h2⟩:∃ y,y=((x3.setCell (xD w 1 0) (J a1)).setCell (xD w 1 1) (J b1)).setCell (xD w 1 2) (.bool c1):=⟨_,rfl⟩
 rw[<- h2]
 have hA:xE w y2:=by
  rw[h2]
  exact((hz.setCell (p:=(xD w 1 0)) qm _).setCell (p:=(xD w 1 1)) qm _).setCell (p:=(xD w 1 2)) qm _
 have p5:x3.heap.size<=y2.heap.size:=by rw[h2];simp[go_sem]
 replace q0:y2.cell? (xD w 1 0)=some (J a1):=by rw[h2];simp[go_sem,q0]
 replace q1:y2.cell? (xD w 1 1)=some (J b1):=by rw[h2];simp[go_sem,q1]
 replace q2:y2.cell? (xD w 1 2)=some (.bool c1):=by rw[h2];simp[go_sem,q2]
 replace r0:y2.cell? (O (w.heap.size+1+1) 0)=some (J 0):=by rw[h2];simp[go_sem,r0]
 replace r1:y2.cell? (O (w.heap.size+1+1) 1)=some (J 0):=by rw[h2];simp[go_sem,r1]
 replace r2:y2.cell? (O (w.heap.size+1+1) 2)=some (.bool false):=by rw[h2];simp[go_sem,r2]
 replace f0:y2.frozen? (xD w 1 0)=false:=by rw[h2];simp[go_sem,f0]
 replace f1:y2.frozen? (xD w 1 1)=false:=by rw[h2];simp[go_sem,f1]
 replace f2:y2.frozen? (xD w 1 2)=false:=by rw[h2];simp[go_sem,f2]
 replace e0:y2.frozen? (O (w.heap.size+1+1) 0)=false:=by rw[h2];simp[go_sem,e0]
 replace e1:y2.frozen? (O (w.heap.size+1+1) 1)=false:=by rw[h2];simp[go_sem,e1]
 replace e2:y2.frozen? (O (w.heap.size+1+1) 2)=false:=by rw[h2];simp[go_sem,e2]
 clear h2 hz
 have hl:xE y2 (y2.alloc (.cells #[J ((W:Int)+(H:Int)),J ((W:Int)),J ((cs.length:Int) - 1),J (-1),J (0),J (2)] 136)):=(Below.refl _ _).alloc (Nat.le_refl _) _
 have s0:=zaa hl q0
 have s1:=zaa hl q1
 have s2:=zaa hl q2
 clear hl
 rw[rounds_succ]
 go_wp2_with fail
 clear s0 s1 s2
 refine(zcY _ _ _ _ W _ _ _ _ k bk _ qg qg qg qg ((hA.alloc qg _).cell (World.block_lt_of_cell? w _ hk) |>.trans hk) _ _ _ EV2.o).mono ?_
 rintro e x4 ⟨rfl,hp⟩
 have hN:=hp.size
 simp at hN
 have hD:xE w x4:=zae (hA.alloc qg _) qn hp
 have h8:xE y2 x4:=zae ((Below.refl _ _).alloc (Nat.le_refl _) _) qm hp
 replace f0:=zak h8 q0 f0;replace f1:=zak h8 q1 f1;replace f2:=zak h8 q2 f2;replace e0:=zak h8 r0 e0;replace e1:=zak h8 r1 e1;replace e2:=zak h8 r2 e2;replace q0:=zaa h8 q0;replace q1:=zaa h8 q1;replace q2:=zaa h8 q2;replace r0:=zaa h8 r0;replace r1:=zaa h8 r1;replace r2:=zaa h8 r2
 clear hp h8
 go_wp2_with fail
 obtain⟨y3,h3⟩:∃ y,y=((x4.setCell (xD w 1 0) (J a2)).setCell (xD w 1 1) (J b2)).setCell (xD w 1 2) (.bool c2):=⟨_,rfl⟩
 rw[<- h3]
 have hE:xE w y3:=by
  rw[h3]
  exact((hD.setCell (p:=(xD w 1 0)) qm _).setCell (p:=(xD w 1 1)) qm _).setCell (p:=(xD w 1 2)) qm _
 have p6:x4.heap.size<=y3.heap.size:=by rw[h3];simp[go_sem]
 replace q0:y3.cell? (xD w 1 0)=some (J a2):=by rw[h3];simp[go_sem,q0]
 replace q1:y3.cell? (xD w 1 1)=some (J b2):=by rw[h3];simp[go_sem,q1]
 replace q2:y3.cell? (xD w 1 2)=some (.bool c2):=by rw[h3];simp[go_sem,q2]
 replace r0:y3.cell? (O (w.heap.size+1+1) 0)=some (J 0):=by rw[h3];simp[go_sem,r0]
 replace r1:y3.cell? (O (w.heap.size+1+1) 1)=some (J 0):=by rw[h3];simp[go_sem,r1]
 replace r2:y3.cell? (O (w.heap.size+1+1) 2)=some (.bool false):=by rw[h3];simp[go_sem,r2]
 replace f0:y3.frozen? (xD w 1 0)=false:=by rw[h3];simp[go_sem,f0]
 replace f1:y3.frozen? (xD w 1 1)=false:=by rw[h3];simp[go_sem,f1]
 replace f2:y3.frozen? (xD w 1 2)=false:=by rw[h3];simp[go_sem,f2]
 replace e0:y3.frozen? (O (w.heap.size+1+1) 0)=false:=by rw[h3];simp[go_sem,e0]
 replace e1:y3.frozen? (O (w.heap.size+1+1) 1)=false:=by rw[h3];simp[go_sem,e1]
 replace e2:y3.frozen? (O (w.heap.size+1+1) 2)=false:=by rw[h3];simp[go_sem,e2]
 clear h3 hD
 have hq:xE y3 (y3.alloc (.cells #[J ((W:Int)+(H:Int)+(W:Int)),J ((H:Int)),J ((cs.length:Int) - 1 - (W:Int)+1),J (-(W:Int)),J (1),J (3)] 136)):=(Below.refl _ _).alloc (Nat.le_refl _) _
 have s0:=zaa hq q0
 have s1:=zaa hq q1
 have s2:=zaa hq q2
 clear hq
 rw[rounds_succ]
 go_wp2_with fail
 clear s0 s1 s2
 refine(zcY _ _ _ _ H _ _ _ _ k bk _ qg qg qg qg ((hE.alloc qg _).cell (World.block_lt_of_cell? w _ hk) |>.trans hk) _ _ _ EV3.o).mono ?_
 rintro e x5 ⟨rfl,hs⟩
 have hP:=hs.size
 simp at hP
 have hF:xE w x5:=zae (hE.alloc qg _) qn hs
 have h9:xE y3 x5:=zae ((Below.refl _ _).alloc (Nat.le_refl _) _) qm hs
 replace f0:=zak h9 q0 f0;replace f1:=zak h9 q1 f1;replace f2:=zak h9 q2 f2;replace e0:=zak h9 r0 e0;replace e1:=zak h9 r1 e1;replace e2:=zak h9 r2 e2;replace q0:=zaa h9 q0;replace q1:=zaa h9 q1;replace q2:=zaa h9 q2;replace r0:=zaa h9 r0;replace r1:=zaa h9 r1;replace r2:=zaa h9 r2
 clear hs h9
 go_wp2_with fail
 obtain⟨y4,h4⟩:∃ y,y=((x5.setCell (xD w 1 0) (J a3)).setCell (xD w 1 1) (J b3)).setCell (xD w 1 2) (.bool c3):=⟨_,rfl⟩
 rw[<- h4]
 have hQ:xE w y4:=by
  rw[h4]
  exact((hF.setCell (p:=(xD w 1 0)) qm _).setCell (p:=(xD w 1 1)) qm _).setCell (p:=(xD w 1 2)) qm _
 have p7:x5.heap.size<=y4.heap.size:=by rw[h4];simp[go_sem]
 replace q0:y4.cell? (xD w 1 0)=some (J a3):=by rw[h4];simp[go_sem,q0]
 replace q1:y4.cell? (xD w 1 1)=some (J b3):=by rw[h4];simp[go_sem,q1]
 replace q2:y4.cell? (xD w 1 2)=some (.bool c3):=by rw[h4];simp[go_sem,q2]
 replace r0:y4.cell? (O (w.heap.size+1+1) 0)=some (J 0):=by rw[h4];simp[go_sem,r0]
 replace r1:y4.cell? (O (w.heap.size+1+1) 1)=some (J 0):=by rw[h4];simp[go_sem,r1]
 replace r2:y4.cell? (O (w.heap.size+1+1) 2)=some (.bool false):=by rw[h4];simp[go_sem,r2]
 replace f0:y4.frozen? (xD w 1 0)=false:=by rw[h4];simp[go_sem,f0]
 replace f1:y4.frozen? (xD w 1 1)=false:=by rw[h4];simp[go_sem,f1]
 replace f2:y4.frozen? (xD w 1 2)=false:=by rw[h4];simp[go_sem,f2]
 replace e0:y4.frozen? (O (w.heap.size+1+1) 0)=false:=by rw[h4];simp[go_sem,e0]
 replace e1:y4.frozen? (O (w.heap.size+1+1) 1)=false:=by rw[h4];simp[go_sem,e1]
 replace e2:y4.frozen? (O (w.heap.size+1+1) 2)=false:=by rw[h4];simp[go_sem,e2]
 clear h4 hF
 rw[rounds_succ]
 go_wp2_with fail
 refine bodyPost_ret (v:=.agg #[J a3,J b3,.bool c3]) (by simp[results,results125,go_sem,r0,r1,r2]) rfl ⟨rfl,?_⟩
 repeat (refine Below.setCell ?_ qu _)
 exact hQ
theorem zoz(wd:Int)(a:Od)(cap:Nat)(cs:Lp)(w:World)(h:zaf w a cs)(h2:okG wd cs=false)(hm:cs.length<=1048576)(t:Value) :
  Calls (SqG.prog aLt) 125 #[.agg (xG wd a cs.length cap),.agg #[J 0,J 0,.bool false],t] w (xB w (.agg #[J 0,J 0,.bool false])):=by
 go_enter (zfx func125),ntmps125
 go_wp2_with fail
 refine(zar _ _ _ cs _ (h.below bel) qg).mono ?_
 rintro e x0 ⟨rfl,h0⟩
 have q0:x0.cell? (xD w 1 0)=some (J 0):=zaa h0 ql
 have q1:x0.cell? (xD w 1 1)=some (J 0):=zaa h0 ql
 have q2:x0.cell? (xD w 1 2)=some (.bool false):=zaa h0 ql
 have r0:x0.cell? (O (w.heap.size+1+1) 0)=some (J 0):=zaa h0 ql
 have r1:x0.cell? (O (w.heap.size+1+1) 1)=some (J 0):=zaa h0 ql
 have r2:x0.cell? (O (w.heap.size+1+1) 2)=some (.bool false):=zaa h0 ql
 have e0:x0.frozen? (O (w.heap.size+1+1) 0)=false:=zak h0 (v:=J 0) ql ql
 have e1:x0.frozen? (O (w.heap.size+1+1) 1)=false:=zak h0 (v:=J 0) ql ql
 have e2:x0.frozen? (O (w.heap.size+1+1) 2)=false:=zak h0 (v:=.bool false) ql ql
 have h1:xE w x0:=zae bel qu h0
 clear h0
 go_wp2_with fail
 refine bodyPost_ret (v:=.agg #[J 0,J 0,.bool false]) (by simp[results,results125,go_sem,r0,r1,r2]) rfl ⟨rfl,?_⟩
 repeat (refine Below.setCell ?_ qu _)
 exact h1
def zbV(wd:Int)(cs:Lp):Int:=if okG wd cs=true then 2 * (wd+(cs.length:Int) / wd) else 0
def zbU(wd:Int)(cs:Lp)(k:Int):Int × Int × Bool :=
 if okG wd cs=true/\0<=k/\k<zbV wd cs then ((zdI wd ((cs.length:Int) / wd) k).1,(zdI wd ((cs.length:Int) / wd) k).2,true) else (0,0,false)
def zcR(wd:Int)(cs:Lp)(x d:Int):Int :=
 if okG wd cs=true/\(0<=x/\x<(cs.length:Int))/\(0<=d/\d<=3) then ofN wd ((cs.length:Int) / wd) x d (zbV wd cs).toNat else -1
theorem zcQ(h0:okG (W:Int) cs=true)(hH:(cs.length:Int) / (W:Int)=(H:Int)):zbV (W:Int) cs=2 * ((W:Int)+(H:Int)):=by
 unfold zbV;rw[if_pos h0,hH]
theorem zjg(h0:okG wd cs=false):zbV wd cs=0:=by
 unfold zbV;rw[if_neg (by simp[h0])]
theorem zoE(h0:okG wd cs=false)(k:Int):zbU wd cs k=(0,0,false):=by
 unfold zbU;rw[if_neg (by simp[h0])]
theorem zo6(h0:okG wd cs=false)(x d:Int):zcR wd cs x d=-1:=by
 unfold zcR;rw[if_neg (by simp[h0])]
def zI(n:Nat):Int:=n
theorem ztB:∀ W:Fin 5,∀ H:Fin 5,∀ k:Fin 20,k.val<2 * (W.val+1+(H.val+1)) ->
  in3 (W.val+1) (H.val+1) ((W.val+1) * (H.val+1)) (zI k.val)=((zdI (zI (W.val+1)) (zI (H.val+1)) (zI k.val)).1,(zdI (zI (W.val+1)) (zI (H.val+1)) (zI k.val)).2,true):=by decide +kernel
theorem ztK:∀ W:Fin 5,∀ H:Fin 5,∀ x:Fin 25,∀ d:Fin 4,x.val<(W.val+1) * (H.val+1) ->
  of3 (W.val+1) (H.val+1) ((W.val+1) * (H.val+1)) (zI x.val) (zI d.val)=ofN (zI (W.val+1)) (zI (H.val+1)) (zI x.val) (zI d.val) (2 * (W.val+1+(H.val+1))):=by decide +kernel
theorem zrt:∀ W:Fin 5,∀ H:Fin 5,∀ j:Fin 5,
  (j.val<W.val+1->0<=0+zI j.val * 1/\0+zI j.val * 1<zI ((W.val+1) * (H.val+1))) /\
  (j.val<H.val+1->0<=zI (W.val+1) - 1+zI j.val * zI (W.val+1)/\zI (W.val+1) - 1+zI j.val * zI (W.val+1)<zI ((W.val+1) * (H.val+1))) /\
  (j.val<W.val+1->0<=zI ((W.val+1) * (H.val+1)) - 1+zI j.val * (-1)/\zI ((W.val+1) * (H.val+1)) - 1+zI j.val * (-1)<zI ((W.val+1) * (H.val+1))) /\
  (j.val<H.val+1->0<=zI ((W.val+1) * (H.val+1)) - 1 - zI (W.val+1)+1+zI j.val * (-zI (W.val+1))/\zI ((W.val+1) * (H.val+1)) - 1 - zI (W.val+1)+1+zI j.val * (-zI (W.val+1))<zI ((W.val+1) * (H.val+1))):=by decide +kernel
theorem zih(f s o x:Int)(m:Nat)(h:∀ j:Nat,j<m->s+(j:Int) * o≠x):sa f s o x m=-1:=by
 induction m with
 | zero=>rfl
 | succ m ih=>exact zpp f s o x m (ih fun j hj=>h j qg) (h m qg)
theorem ztz(W H:Nat)(hW:1<=W/\W<=5)(hH:1<=H/\H<=5)(k:Int) :
  in3 W H (W * H) k=if 0<=k/\k<2 * ((W:Int)+(H:Int)) then ((zdI W H k).1,(zdI W H k).2,true) else (0,0,false):=by
 by_cases hk:0<=k/\k<2 * ((W:Int)+(H:Int))
 ·rw[if_pos hk]
  obtain⟨K,rfl⟩:=Int.eq_ofNat_of_zero_le hk.1
  have:=ztB ⟨W - 1,qg⟩ ⟨H - 1,qg⟩ ⟨K,qg⟩
  simp only[show W - 1+1=W by omega,show H - 1+1=H by omega,zI] at this
  exact this qg
 ·rw[if_neg hk]
  unfold in3 in2 in1 in0
  rw[if_neg qg,if_neg qg,if_neg qg,if_neg qg]
theorem ztJ(W H:Nat)(hW:1<=W/\W<=5)(hH:1<=H/\H<=5)(x d:Int) :
  of3 W H (W * H) x d=if (0<=x/\x<((W * H:Nat):Int))/\(0<=d/\d<=3) then ofN W H x d (2 * (W+H)) else -1:=by
 have hm:W * H<=25:=Nat.le_trans (Nat.mul_le_mul hW.2 hH.2) qg
 by_cases hd:0<=d/\d<=3
 ·by_cases hx:0<=x/\x<((W * H:Nat):Int)
  ·rw[if_pos ⟨hx,hd⟩]
   obtain⟨X,rfl⟩:=Int.eq_ofNat_of_zero_le hx.1
   obtain⟨D,rfl⟩:=Int.eq_ofNat_of_zero_le hd.1
   have:=ztK ⟨W - 1,qg⟩ ⟨H - 1,qg⟩ ⟨X,qg⟩ ⟨D,qg⟩
   simp only[show W - 1+1=W by omega,show H - 1+1=H by omega,zI] at this
   exact this qg
  ·rw[if_neg (fun q=>hx q.1)]
   have hf:=fun (j:Nat) (hj:j<5)=>zrt ⟨W - 1,qg⟩ ⟨H - 1,qg⟩ ⟨j,hj⟩
   simp only[show W - 1+1=W by omega,show H - 1+1=H by omega,zI] at hf
   have n0:sa 0 0 1 x W=-1:=zih _ _ _ _ _ fun j hj e=>hx (by have:=(hf j qg).1 hj;omega)
   have n1:sa (W:Int) ((W:Int) - 1) (W:Int) x H=-1:=zih _ _ _ _ _ fun j hj e=>hx (by have:=(hf j qg).2.1 hj;rw[e] at this;exact this)
   have n2:sa ((W:Int)+(H:Int)) (((W * H:Nat):Int) - 1) (-1) x W=-1:=zih _ _ _ _ _ fun j hj e=>hx (by have:=(hf j qg).2.2.1 hj;rw[e] at this;exact this)
   have n3:sa ((W:Int)+(H:Int)+(W:Int)) (((W * H:Nat):Int) - 1 - (W:Int)+1) (-(W:Int)) x H=-1:=zih _ _ _ _ _ fun j hj e=>hx (by have:=(hf j qg).2.2.2 hj;rw[e] at this;exact this)
   unfold of3 of2 of1 of0
   rw[n0,n1,n2,n3]
   repeat' split
   all_goals rfl
 ·rw[if_neg (fun q=>hd q.2)]
  unfold of3 of2 of1 of0
  rw[if_neg qg,if_neg qg,if_neg qg,if_neg qg]
theorem zoF(h0:okG (W:Int) cs=true)(hW:1<=W/\W<=5)(h1:1<=H/\H<=5)(hl:cs.length=W * H)(hH:(cs.length:Int) / (W:Int)=(H:Int))(k:Int):in3 W H cs.length k=zbU (W:Int) cs k:=by
 rw[hl,ztz W H hW h1 k]
 unfold zbU
 rw[zcQ h0 hH,hH]
 by_cases hk:0<=k/\k<2 * ((W:Int)+(H:Int))
 ·rw[if_pos hk,if_pos ⟨h0,hk⟩]
 ·rw[if_neg hk,if_neg (fun q=>hk q.2)]
theorem zo7(h0:okG (W:Int) cs=true)(hW:1<=W/\W<=5)(h1:1<=H/\H<=5)(hl:cs.length=W * H)(hH:(cs.length:Int) / (W:Int)=(H:Int))(x d:Int):of3 W H cs.length x d=zcR (W:Int) cs x d:=by
 unfold zcR
 rw[zcQ h0 hH,hH,hl,ztJ W H hW h1 x d]
 rw[show (2 * ((W:Int)+(H:Int))).toNat=2 * (W+H) by omega]
 by_cases hx:(0<=x/\x<((W * H:Nat):Int))/\(0<=d/\d<=3)
 ·rw[if_pos hx,if_pos ⟨h0,hx⟩]
 ·rw[if_neg hx,if_neg (fun q=>hx q.2)]
theorem zdf(wd:Int)(a:Od)(cap:Nat)(cs:Lp)(w:World)(h:zaf w a cs)(hm:cs.length<=1048576) :
  Calls (SqG.prog aLt) 85 #[.agg (xG wd a cs.length cap)] w (xB w (J (zbV wd cs))):=by
 rcases hk:okG wd cs with _|_
 ·rw[zjg hk]
  go_enter (zfx func85),ntmps85
  go_wp2_with fail
  refine(ziV _ _ _ cs _ (h.below bel) hk hm _ _).mono ?_
  rintro e x0 ⟨rfl,h0⟩
  go_wp2_with fail
  go_ret
  exact⟨rfl,zae bel qm h0⟩
 ·obtain⟨W,H,rfl,h1,h2,h3,h4,el,hH,h5⟩:=zf7 wd cs hk
  have hn:cs.length<=25:=by rw[el];exact Nat.le_trans (Nat.mul_le_mul h2 h4) qg
  have EL:Hid (cs.length=W * H):=el
  have HH:Hid (cs.length / W=H):=hH
  have HI:Hid ((cs.length:Int) / (W:Int)=(H:Int)):=h5
  clear el hH h5
  obtain⟨M,hM⟩:∃ M,zbV (W:Int) cs=M:=⟨_,rfl⟩
  rw[hM]
  have EM:Hid ((W:Int)+(H:Int)+(W:Int)+(H:Int)=M):=by show _=_;rw[<- hM,zcQ hk HI.o];omega
  clear hM
  go_enter (zfx func85),ntmps85
  go_wp2_with fail
  refine(zoy W H _ _ cs _ (h.below bel) hk ⟨h1,h2⟩ ⟨h3,h4⟩ hn HH.o).mono ?_
  rintro e x0 ⟨rfl,h0⟩
  rw[EM.o]
  go_wp2_with fail
  go_ret
  exact⟨rfl,zae bel qm h0⟩
theorem zmC(wd:Int)(a:Od)(cap:Nat)(cs:Lp)(w:World)(h:zaf w a cs)(hm:cs.length<=1048576)(x d:Int) :
  Calls (SqG.prog aLt) 133 #[.agg (xG wd a cs.length cap),J x,J d] w (xB w (J (zcR wd cs x d))):=by
 rcases hk:okG wd cs with _|_
 ·rw[zo6 hk]
  go_enter (zfx func133),ntmps133
  go_wp2_with fail
  refine(ziV _ _ _ cs _ (h.below bel) hk hm _ _).mono ?_
  rintro e x0 ⟨rfl,h0⟩
  go_wp2_with fail
  go_ret
  exact⟨rfl,zae bel qu h0⟩
 ·obtain⟨W,H,rfl,h1,h2,h3,h4,el,hH,h5⟩:=zf7 wd cs hk
  have hn:cs.length<=25:=by rw[el];exact Nat.le_trans (Nat.mul_le_mul h2 h4) qg
  have EL:Hid (cs.length=W * H):=el
  have HH:Hid (cs.length / W=H):=hH
  have HI:Hid ((cs.length:Int) / (W:Int)=(H:Int)):=h5
  clear el hH h5
  obtain⟨v,hv⟩:∃ v,zcR (W:Int) cs x d=v:=⟨_,rfl⟩
  rw[hv]
  have EV:Hid (of3 W H cs.length x d=v):=(zo7 hk ⟨h1,h2⟩ ⟨h3,h4⟩ EL.o HI.o x d).trans hv
  clear hv
  go_enter (zfx func133),ntmps133
  go_wp2_with fail
  refine(zsK W H _ _ cs _ (h.below bel) hk ⟨h1,h2⟩ ⟨h3,h4⟩ hn HH.o x d _ _ ql ql).mono ?_
  rintro e x0 ⟨rfl,h0⟩
  rw[EV.o]
  go_wp2_with fail
  go_ret
  exact⟨rfl,zae bel qu h0⟩
theorem zko(wd:Int)(a:Od)(cap:Nat)(cs:Lp)(w:World)(h:zaf w a cs)(hm:cs.length<=1048576)(k x d:Int)(b:Bool)(hv:zbU wd cs k=(x,d,b)) :
  Calls (SqG.prog aLt) 95 #[.agg (xG wd a cs.length cap),J k] w (xB w (.tuple #[.agg #[J x,J d],.bool b])):=by
 have HC:Hid (∀ w',xE w w'->∀ bk,w'.cell? (O bk 0)=some (J k)->Calls (SqG.prog aLt) 125 #[.agg (xG wd a cs.length cap),.agg #[J 0,J 0,.bool false],.func (.func 126) #[] #[.pointer (xA bk)]] w' fun e w''=>e=.returned (.agg #[J x,J d,.bool b])/\Below w'.heap.size w' w''):=by
  intro w' hb bk hc
  rcases hk:okG wd cs with _|_
  ·rw[zoE hk] at hv
   simp only[Prod.mk.injEq] at hv
   obtain⟨rfl,rfl,rfl⟩:=hv
   exact zoz _ _ _ cs _ (h.below hb) hk hm _
  ·obtain⟨W,H,rfl,h1,h2,h3,h4,el,hH,h7⟩:=zf7 wd cs hk
   have hn:cs.length<=25:=by rw[el];exact Nat.le_trans (Nat.mul_le_mul h2 h4) qg
   exact zqN W H _ _ cs _ (h.below hb) hk ⟨h1,h2⟩ ⟨h3,h4⟩ hn hH k bk hc x d b ((zoF hk ⟨h1,h2⟩ ⟨h3,h4⟩ el h7 k).trans hv)
 clear hv
 go_enter (zfx func95),ntmps95
 go_wp2_with fail
 refine(HC.o _ bel _ ql).mono ?_
 rintro e x0 ⟨rfl,h0⟩
 have r0:x0.cell? (O (w.heap.size+1+1) 0)=some (J 0):=zaa h0 ql
 have r1:x0.cell? (O (w.heap.size+1+1) 1)=some (J 0):=zaa h0 ql
 have f0:x0.frozen? (O (w.heap.size+1+1) 0)=false:=zak h0 (v:=J 0) ql ql
 have f1:x0.frozen? (O (w.heap.size+1+1) 1)=false:=zak h0 (v:=J 0) ql ql
 have h8:=h0.size
 simp at h8
 have h6:xE w x0:=zae bel qu h0
 have hO:xE x0 (x0.alloc (.cells #[J x,J d,.bool b] 192)):=(Below.refl _ _).alloc (Nat.le_refl _) _
 have h5:=zae h6 qg hO
 have s0:(x0.alloc (.cells #[J x,J d,.bool b] 192)).cell? (xC x0 0)=some (J x):=ql
 have s1:(x0.alloc (.cells #[J x,J d,.bool b] 192)).cell? (xC x0 1)=some (J d):=ql
 have s2:(x0.alloc (.cells #[J x,J d,.bool b] 192)).cell? (xC x0 2)=some (.bool b):=ql
 replace f0:=zak hO r0 f0;replace f1:=zak hO r1 f1;replace r0:=zaa hO r0;replace r1:=zaa hO r1
 clear h0 h6 hO HC
 go_wp2_with fail
 obtain⟨y,hy⟩:∃ y,y=x0.alloc (.cells #[J x,J d,.bool b] 192):=⟨_,rfl⟩
 rw[<- hy] at h5 s0 s1 s2 r0 r1 f0 f1 ⊢
 clear hy
 have he:¬ (w.heap.size+1+1=x0.heap.size):=qg
 have h9:¬ (x0.heap.size=w.heap.size+1+1):=qg
 go_region
 all_goals
  go_wp2
  refine bodyPost_ret (v:=.tuple #[.agg #[J x,J d],.bool b]) (by simp[results,results95,go_sem,r0,r1]) rfl ⟨rfl,?_⟩
  first
   | exact((h5.setCell (p:=(O (w.heap.size+1+1) 0)) qu _).setCell (p:=(O (w.heap.size+1+1) 1)) qu _).drew
   | exact(h5.drew.setCell (p:=(O (w.heap.size+1+1) 0)) qu _).setCell (p:=(O (w.heap.size+1+1) 1)) qu _
def inS(wd:Int)(cs:Lp)(k:Int):Bool:=decide (0<=k/\k<zbV wd cs)
theorem zi0{k:Int}(h:inS wd cs k=true):okG wd cs=true:=by
 rcases hk:okG wd cs with _|_
 ·simp only[inS,zjg hk,decide_eq_true_eq] at h;omega
 ·rfl
