/- Part. -/
import Derived.Laws.CopyOwn
import Derived.Deep.WholeRow
import Derived.Test.YtefakaeblcafmaaGreatNAi
set_option maxHeartbeats 4000000
set_option maxRecDepth 4000
set_option linter.unusedVariables false
namespace Go.Proofs.YtefakaeblcafmaaGreat
variable{P:Program}
open Tryz
namespace Sp
variable{aLt:Nat->Func->Func}
open Go.RowKit
theorem zez(f m s o i u k:Int)(hf:0<=f/\f<=100)(hm:0<=m/\m<=100)(b:Bool)(hb:b=decide (f<=k/\k<f+m))(w:World) :
  Calls (SqG.prog aLt) 46 #[.agg #[.int .i64 f,.int .i64 m,.int .i64 s,.int .i64 o,.int .i64 i,.int .i64 u],.int .i64 k] w fun e w'=>e=.returned (.bool b)/\Below w.heap.size w w':=by
 by_cases h1:f<=k
 ·by_cases h2:k<f+m
  ·have e1:b=true:=by rw[hb];exact decide_eq_true ⟨h1,h2⟩
   clear hb
   subst e1
   go_enter (zfx func46),ntmps46
   go_wp2
   go_ret
   exact⟨rfl,bel⟩
  ·have e1:b=false:=by rw[hb];exact decide_eq_false qg
   clear hb
   subst e1
   go_enter (zfx func46),ntmps46
   go_wp2
   go_ret
   exact⟨rfl,bel⟩
 ·have e1:b=false:=by rw[hb];exact decide_eq_false qg
  clear hb
  subst e1
  go_enter (zfx func46),ntmps46
  go_wp2
  go_ret
  exact⟨rfl,bel⟩
theorem znK(f m s o i u k:Int)(p x:Int)(hf:0<=f/\f<=100)(hk:0<=k/\k<=100)(hp:(k - f) * o=p)(hp2:-100<=p/\p<=100)(hs:-100<=s/\s<=100)(hx:s+p=x)(w:World) :
  Calls (SqG.prog aLt) 47 #[.agg #[.int .i64 f,.int .i64 m,.int .i64 s,.int .i64 o,.int .i64 i,.int .i64 u],.int .i64 k] w fun e w'=>e=.returned (.agg #[.int .i64 x,.int .i64 i])/\Below w.heap.size w w':=by
 have v1:IntKind.i64.wrap ((k - f) * o)=p:=by rw[hp];exact IntWalk.i64_in _ qg
 clear hp
 go_enter (zfx func47),ntmps47
 go_wp2
 refine bodyPost_ret (v:=.agg #[.int .i64 x,.int .i64 i]) (by simp[results,results47,go_sem]) rfl ⟨rfl,?_⟩
 exact bel
def zbJ(W H n:Int):Array Value:=#[.int .i64 (0),.int .i64 (W),.int .i64 (0),.int .i64 (1),.int .i64 (2),.int .i64 (0),.int .i64 (W),.int .i64 (H),.int .i64 (W - 1),.int .i64 (W),.int .i64 (3),.int .i64 (1),.int .i64 (W+H),.int .i64 (W),.int .i64 (n - 1),.int .i64 (-1),.int .i64 (0),.int .i64 (2),.int .i64 (W+H+W),.int .i64 (H),.int .i64 (n - 1 - W+1),.int .i64 (-W),.int .i64 (1),.int .i64 (3)]
theorem zh8:((SqG.prog aLt).info? 120).map (·.size)=some 24:=qh
theorem zmk:(SqG.prog aLt).underlying 120=some (.array 4 86):=qh
theorem zjO(W H n:Int):(zbJ W H n).size=24:=rfl
theorem zlW(W H n:Int):(zbJ W H n).all (·.oneCell')=true:=qh
theorem zlt(W H n:Int)(w:World)(g:Nat)(hg:w.heap[g]?=some (.cells (zbJ W H n) 120 (0,0))) :
  Sem.run (SqG.prog aLt) (loadVar 120 ⟨g,0,none⟩) w=.ok (.agg (zbJ W H n)) w :=
 run_loadVar_row w g 120 120 (zbJ W H n) (0,0) _ hg zmk rfl (by rw[zh8,zjO])
theorem zjV{w:World}{ops:Array Oper}{rest:List Oper}{o:Oper}{a:Act}{Q:Exit->Act->World->Prop}(hgd:o.guard=none)(ty:TypeId)(x y:Operand)(ho:o.op=.store ty x y)(g:Nat)(cells:Array Value)(hx:a.eval x=.pointer (some ⟨g,0,none⟩))(hy:a.eval y=.agg cells)(t:TypeId)(old:Array Value)(hg:w.heap[g]?=some (.cells old t (0,0)))(hi:(P.info? ty).map (·.size)=some cells.size)(hold:old.size=cells.size)(h1:cells.all (·.oneCell')=true)(h:∀ w',w'.heap[g]?=some (.cells cells t (0,0))->(∀ B w0,Below B w0 w->B<=g->Below B w0 w')->wpList P ops Q rest (a.put o.dst undef) w'):wpList P ops Q (o::rest) a w :=
 wpList_plain hgd fun _ hK=>wp_store_row ty x y ho g cells hx hy t old hg hi hold h1 (hK _ _ (h _ (setRow_heap w g old cells t (0,0) hg) (fun _ _ hb hB=>below_setRow hb hB cells)))
theorem zbX(W H:Nat)(a:Option Addr)(n cap:Nat)(w:World)(hW:1<=W/\W<=5)(hH5:1<=H/\H<=5)(hn:n<=25)(hH:n / W=H) :
  Calls (SqG.prog aLt) 61 #[.agg #[.int .i64 (W:Int),.slice a n cap]] w fun e w'=>e=.returned (.agg (zbJ W H n))/\Below w.heap.size w w':=by
 have HH:Hid (n / W=H):=hH
 have hWa:=hW.1
 have hWb:=hW.2
 have hHb:=hH5.2
 obtain⟨w0,hw0⟩:∃ w0,w0=(w.alloc (.cells #[.int .i64 (W:Int),.slice a n cap] 25)).alloc (.cells #[.int .i64 0,.int .i64 0,.int .i64 0,.int .i64 0,.int .i64 0,.int .i64 0,.int .i64 0,.int .i64 0,.int .i64 0,.int .i64 0,.int .i64 0,.int .i64 0,.int .i64 0,.int .i64 0,.int .i64 0,.int .i64 0,.int .i64 0,.int .i64 0,.int .i64 0,.int .i64 0,.int .i64 0,.int .i64 0,.int .i64 0,.int .i64 0] 120):=⟨_,rfl⟩
 have hbB:Below w.heap.size w w0:=by rw[hw0];exact bel
 have g0:w0.cell? ⟨w.heap.size,0,none⟩=some (.int .i64 (W:Int)):=by rw[hw0];simp[go_sem]
 have g1:w0.cell? ⟨w.heap.size,1,none⟩=some (.slice a n cap):=by rw[hw0];simp[go_sem]
 have hz0:w0.heap.size=w.heap.size+2:=by rw[hw0];simp[go_sem]
 have hh0:w0.heap[w.heap.size+1]?=some (.cells #[.int .i64 0,.int .i64 0,.int .i64 0,.int .i64 0,.int .i64 0,.int .i64 0,.int .i64 0,.int .i64 0,.int .i64 0,.int .i64 0,.int .i64 0,.int .i64 0,.int .i64 0,.int .i64 0,.int .i64 0,.int .i64 0,.int .i64 0,.int .i64 0,.int .i64 0,.int .i64 0,.int .i64 0,.int .i64 0,.int .i64 0,.int .i64 0] 120 (0,0)):=by
  rw[hw0]
  have:=heap_alloc_last (w.alloc (.cells #[.int .i64 (W:Int),.slice a n cap] 25)) (.cells #[.int .i64 0,.int .i64 0,.int .i64 0,.int .i64 0,.int .i64 0,.int .i64 0,.int .i64 0,.int .i64 0,.int .i64 0,.int .i64 0,.int .i64 0,.int .i64 0,.int .i64 0,.int .i64 0,.int .i64 0,.int .i64 0,.int .i64 0,.int .i64 0,.int .i64 0,.int .i64 0,.int .i64 0,.int .i64 0,.int .i64 0,.int .i64 0] 120)
  rwa [show (w.alloc (.cells #[.int .i64 (W:Int),.slice a n cap] 25)).heap.size=w.heap.size+1 by simp[go_sem]] at this
 have HH0:Hid (w0.heap[w.heap.size+1]?=some (.cells #[.int .i64 0,.int .i64 0,.int .i64 0,.int .i64 0,.int .i64 0,.int .i64 0,.int .i64 0,.int .i64 0,.int .i64 0,.int .i64 0,.int .i64 0,.int .i64 0,.int .i64 0,.int .i64 0,.int .i64 0,.int .i64 0,.int .i64 0,.int .i64 0,.int .i64 0,.int .i64 0,.int .i64 0,.int .i64 0,.int .i64 0,.int .i64 0] 120 (0,0))):=hh0
 have HZ0:Hid (w0.heap.size=w.heap.size+2):=hz0
 clear hH hh0 hz0
 go_enter (zfx func61),ntmps61
 go_wp2
 rw[<- hw0]
 clear hw0
 go_region_held3 (fun w'=>w'.cell? ⟨w.heap.size,0,none⟩=some (.int .i64 (W:Int))/\w'.cell? ⟨w.heap.size,1,none⟩=some (.slice a n cap))
  (first
   | with_reducible exact⟨zad hbC g0,zad hbC g1⟩
   | go_keep)
  (first
   | (go_at_call 56;refine(zc1 W H _ _ _ _ hW.1 qg HH.out).mono ?_;rintro e x0 ⟨rfl,hbC'⟩;have hbC:Below w0.heap.size w0 x0:=(by first|with_reducible exact hbC'|with_reducible exact zdU hbC'))
   | fail)
 have hx0:x0.heap[w.heap.size+1]?=some (.cells #[.int .i64 0,.int .i64 0,.int .i64 0,.int .i64 0,.int .i64 0,.int .i64 0,.int .i64 0,.int .i64 0,.int .i64 0,.int .i64 0,.int .i64 0,.int .i64 0,.int .i64 0,.int .i64 0,.int .i64 0,.int .i64 0,.int .i64 0,.int .i64 0,.int .i64 0,.int .i64 0,.int .i64 0,.int .i64 0,.int .i64 0,.int .i64 0] 120 (0,0)):=(hbC.block _ (by rw[HZ0.out];omega)).trans HH0.out
 have hb0:=zai hbB hbB.size hbC
 clear hbB hbC hbC' g0 g1 HH0 HZ0 HH hW hH5
 have HX:Hid (x0.heap[w.heap.size+1]?=some (.cells #[.int .i64 0,.int .i64 0,.int .i64 0,.int .i64 0,.int .i64 0,.int .i64 0,.int .i64 0,.int .i64 0,.int .i64 0,.int .i64 0,.int .i64 0,.int .i64 0,.int .i64 0,.int .i64 0,.int .i64 0,.int .i64 0,.int .i64 0,.int .i64 0,.int .i64 0,.int .i64 0,.int .i64 0,.int .i64 0,.int .i64 0,.int .i64 0] 120 (0,0))):=hx0
 clear hx0
 go_wp2_with (refine zjV rfl 120 (.tmp 2) (.tmp 41) rfl (w.heap.size+1) (zbJ (W:Int) (H:Int) (n:Int)) rfl rfl 120 _ HX.out zh8 rfl (zlW _ _ _) ?_)
 intro x1 hx1 hbf
 have hb1:=hbf _ _ hb0 qg
 go_wp2
 have hld:=zlt (aLt:=aLt) (W:Int) (H:Int) (n:Int) x1 (w.heap.size+1) hx1
 refine bodyPost_ret (v:=.agg (zbJ (W:Int) (H:Int) (n:Int))) ?_ rfl ⟨rfl,hb1⟩
 simp[results,results61,asAddr,hld]
def sa(f s o x:Int):Nat->Int
 | 0=>-1
 | n+1=>if sa f s o x n≠-1 then sa f s o x n else if s+(n:Int) * o=x then f+n else -1
theorem zrZ(f s o x:Int)(hf:0<=f)(k:Nat)(h0:sa f s o x k=-1)(h1:s+(k:Int) * o=x)(m:Nat)(hm:k<m):sa f s o x m=f+k:=by
 induction m with
 | zero=>omega
 | succ m ih =>
  simp only[sa]
  by_cases e:k=m
  ·subst e
   rw[if_neg (by simp[h0]),if_pos h1]
  ·rw[ih qg,if_pos qg]
theorem znR(f s o x:Int)(k:Nat)(h0:sa f s o x k=-1)(h1:¬ s+(k:Int) * o=x):sa f s o x (k+1)=-1:=by
 simp only[sa]
 rw[if_neg (by simp[h0]),if_neg h1]
theorem zo4(y i:Int)(w:World):Sem.run (SqG.prog aLt) (Instr.field 67 (.agg #[.int .i64 y,.int .i64 i]) 0) w=.ok (.int .i64 y) w:=qh
theorem zjP(f m:Nat)(s o i u x:Int)(w:World)(hf:f<=50)(hm:m<=5)(hs:-50<=s/\s<=50)(ho:-5<=o/\o<=5) :
  Calls (SqG.prog aLt) 82 #[.agg #[.int .i64 (f:Int),.int .i64 (m:Int),.int .i64 s,.int .i64 o,.int .i64 i,.int .i64 u],.int .i64 x] w fun e w'=>e=.returned (.int .i64 (sa f s o x m))/\Below w.heap.size w w':=by
 have hb0:Below w.heap.size w (w.alloc (.cells #[.int .i64 (f:Int),.int .i64 (m:Int),.int .i64 s,.int .i64 o,.int .i64 i,.int .i64 u] 86)):=bel
 have g0:(w.alloc (.cells #[.int .i64 (f:Int),.int .i64 (m:Int),.int .i64 s,.int .i64 o,.int .i64 i,.int .i64 u] 86)).cell? ⟨w.heap.size,0,none⟩=some (.int .i64 (f:Int)):=qj
 have g1:(w.alloc (.cells #[.int .i64 (f:Int),.int .i64 (m:Int),.int .i64 s,.int .i64 o,.int .i64 i,.int .i64 u] 86)).cell? ⟨w.heap.size,1,none⟩=some (.int .i64 (m:Int)):=qj
 have g2:(w.alloc (.cells #[.int .i64 (f:Int),.int .i64 (m:Int),.int .i64 s,.int .i64 o,.int .i64 i,.int .i64 u] 86)).cell? ⟨w.heap.size,2,none⟩=some (.int .i64 s):=qj
 have g3:(w.alloc (.cells #[.int .i64 (f:Int),.int .i64 (m:Int),.int .i64 s,.int .i64 o,.int .i64 i,.int .i64 u] 86)).cell? ⟨w.heap.size,3,none⟩=some (.int .i64 o):=qj
 have g4:(w.alloc (.cells #[.int .i64 (f:Int),.int .i64 (m:Int),.int .i64 s,.int .i64 o,.int .i64 i,.int .i64 u] 86)).cell? ⟨w.heap.size,4,none⟩=some (.int .i64 i):=qj
 have g5:(w.alloc (.cells #[.int .i64 (f:Int),.int .i64 (m:Int),.int .i64 s,.int .i64 o,.int .i64 i,.int .i64 u] 86)).cell? ⟨w.heap.size,5,none⟩=some (.int .i64 u):=qj
 go_enter (zfx func82),ntmps82
 go_wp2
 obtain⟨w0,hw0⟩:∃ w0,w0=w.alloc (.cells #[.int .i64 (f:Int),.int .i64 (m:Int),.int .i64 s,.int .i64 o,.int .i64 i,.int .i64 u] 86):=⟨_,rfl⟩
 rw[<- hw0] at hb0 g0 g1 g2 g3 g4 g5 ⊢
 clear hw0
 go_loopw [5] (fun k wr=>∃ K:Nat,f<=K/\K<=f+m/\k=.int .i64 (K:Int)/\sa f s o x (K - f)=-1/\Below w0.heap.size w0 wr) (fun k _=>f+m - (intOf k).toNat)
 case atStart=>exact⟨f,Nat.le_refl _,qg,rfl,by rw[Nat.sub_self];rfl,Below.refl _ _⟩
 case round =>
  obtain⟨K,hK1,hK2,rfl,hno,hb⟩:=hrel
  have hz:=hb.size
  have hz0:=hb0.size
  replace g0:=zad hb g0;replace g1:=zad hb g1;replace g2:=zad hb g2;replace g3:=zad hb g3;replace g4:=zad hb g4;replace g5:=zad hb g5
  have HNO:Hid (sa f s o x (K - f)=-1):=hno
  clear hno
  by_cases hlt:K<f+m
  ·obtain⟨p,hp⟩:∃ p,((K:Int) - (f:Int)) * o=p:=⟨_,rfl⟩
   obtain⟨y,hy⟩:∃ y,s+p=y:=⟨_,rfl⟩
   have hp2:-25<=p/\p<=25:=by
    rw[<- hp]
    obtain⟨t,ht⟩:∃ t:Nat,K=f+t:=⟨K - f,qg⟩
    have ht2:t<5:=qg
    rw[show (K:Int) - (f:Int)=(t:Int) by omega]
    rcases (show t=0\/t=1\/t=2\/t=3\/t=4 by omega) with rfl|rfl|rfl|rfl|rfl <;> simp <;> omega
   have HP:Hid (((K:Int) - (f:Int)) * o=p):=hp
   have HY:Hid (s+p=y):=hy
   clear hp hy
   go_wp2_with fail
   refine(zez _ _ _ _ _ _ _ qg qg true (decide_eq_true qg).symm _).mono ?_
   rintro e w1 ⟨rfl,hb1⟩
   have hz1:=hb1.size
   have hB1:=zai hb hb.size hb1
   replace g0:=zad hb1 g0;replace g1:=zad hb1 g1;replace g2:=zad hb1 g2;replace g3:=zad hb1 g3;replace g4:=zad hb1 g4;replace g5:=zad hb1 g5
   clear hb hb1
   go_wp2_with fail
   refine(znK _ _ _ _ _ _ _ p y qg qg HP.out qg qg HY.out _).mono ?_
   rintro e w2 ⟨rfl,hb2⟩
   have hz2:=hb2.size
   have hB2:=zai hB1 hB1.size hb2
   clear hb2
   have hk0:s+((K - f:Nat):Int) * o=y:=by
    rw[<- HY.out,<- HP.out]
    rw[show ((K - f:Nat):Int)=(K:Int) - (f:Int) by omega]
   have hfa:=zo4 (aLt:=aLt) y i
   by_cases e1:y=x
   ·have hv:sa f s o x m=(K:Int):=by
     rw[zrZ f s o x qg (K - f) HNO.out (hk0.trans e1) m qg]
     omega
    have HV:Hid (sa f s o x m=(K:Int)):=hv
    have b1:(y == x)=true:=by simp[e1]
    clear hv hk0 HP HY hp2
    subst e1
    go_wp2
    go_ret
    exact⟨by rw[HV.out];rfl,zai hb0 hb0.size hB2⟩
   ·have hv:=znR f s o x (K - f) HNO.out (fun q=>e1 (hk0.symm.trans q))
    rw[show K - f+1=K+1 - f by omega] at hv
    have b1:(y == x)=false:=by simp[e1]
    have HV:Hid (sa f s o x (K+1 - f)=-1):=hv
    clear hk0 e1 hv HP HY hp2
    go_wp2
    go_roundw
    case rel=>exact⟨K+1,qg,qg,by go_num,HV.out,hB2⟩
    case measure=>exact qe
  ·have hv:sa f s o x m=-1:=by
    rw[<- HNO.out]
    rw[show K - f=m by omega]
   have HV:Hid (sa f s o x m=-1):=hv
   clear hv
   go_wp2_with fail
   refine(zez _ _ _ _ _ _ _ qg qg false (decide_eq_false qg).symm _).mono ?_
   rintro e w1 ⟨rfl,hb1⟩
   have hB1:=zai hb hb.size hb1
   clear hb hb1
   go_wp2
   go_ret
   exact⟨by rw[HV.out];rfl,zai hb0 hb0.size hB1⟩
theorem zb9(q f m s o i u:Int)(hq:0<=q/\q<=100)(hm:0<=m/\m<=100)(w:World) :
  Calls (SqG.prog aLt) 87 #[.int .i64 q,.agg #[.int .i64 f,.int .i64 m,.int .i64 s,.int .i64 o,.int .i64 i,.int .i64 u]] w fun e w'=>e=.returned (.int .i64 (q+m))/\Below w.heap.size w w':=by
 go_enter (zfx func87),ntmps87
 go_wp2
 go_ret
 exact⟨rfl,bel⟩
theorem zmg(q:Int)(f m:Nat)(s o i u x d:Int)(bd bx:Nat)(w:World)(hf:f<=50)(hm:m<=5)(hs:-50<=s/\s<=50)(ho:-5<=o/\o<=5)(hd:w.cell? ⟨bd,0,none⟩=some (.int .i64 d))(hx:w.cell? ⟨bx,0,none⟩=some (.int .i64 x))(v:Int)(hv:v=if u=d then sa f s o x m else q) :
  Calls (SqG.prog aLt) 81 #[.int .i64 q,.agg #[.int .i64 (f:Int),.int .i64 (m:Int),.int .i64 s,.int .i64 o,.int .i64 i,.int .i64 u],.pointer (some ⟨bd,0,none⟩),.pointer (some ⟨bx,0,none⟩)] w fun e w'=>e=.returned (.int .i64 v)/\Below w.heap.size w w':=by
 have hb0:Below w.heap.size w (w.alloc (.cells #[.int .i64 (f:Int),.int .i64 (m:Int),.int .i64 s,.int .i64 o,.int .i64 i,.int .i64 u] 86)):=bel
 have hd2:=zad hb0 hd
 have hx2:=zad hb0 hx
 have g5:(w.alloc (.cells #[.int .i64 (f:Int),.int .i64 (m:Int),.int .i64 s,.int .i64 o,.int .i64 i,.int .i64 u] 86)).cell? ⟨w.heap.size,5,none⟩=some (.int .i64 u):=qj
 by_cases e1:u=d
 ·rw[if_pos e1] at hv
  have HV:Hid (v=sa f s o x m):=hv
  have b1:(u == d)=true:=by simp[e1]
  clear hv e1
  go_enter (zfx func81),ntmps81
  go_wp2_with fail
  refine(zjP f m s o i u x _ hf hm hs ho).mono ?_
  rintro e w1 ⟨rfl,hb1⟩
  rw[<- HV.out]
  go_wp2
  go_ret
  exact⟨rfl,zai hb0 hb0.size hb1⟩
 ·rw[if_neg e1] at hv
  subst hv
  have b1:(u == d)=false:=by simp[e1]
  clear e1
  go_enter (zfx func81),ntmps81
  go_wp2
  go_ret
  exact⟨rfl,hb0⟩
theorem zjY(qx qd:Int)(qb:Bool)(f m:Nat)(s o i u k:Int)(bk:Nat)(w:World)(hf:f<=50)(hm:m<=5)(hs:-50<=s/\s<=50)(ho:-5<=o/\o<=5)(hk:w.cell? ⟨bk,0,none⟩=some (.int .i64 k))(vx vd:Int)(vb:Bool)(hv:(vx,vd,vb)=if (f:Int)<=k/\k<(f:Int)+(m:Int) then (s+(k - (f:Int)) * o,i,true) else (qx,qd,qb)) :
  Calls (SqG.prog aLt) 45 #[.agg #[.int .i64 qx,.int .i64 qd,.bool qb],.agg #[.int .i64 (f:Int),.int .i64 (m:Int),.int .i64 s,.int .i64 o,.int .i64 i,.int .i64 u],.pointer (some ⟨bk,0,none⟩)] w fun e w'=>e=.returned (.agg #[.int .i64 vx,.int .i64 vd,.bool vb])/\Below w.heap.size w w':=by
 obtain⟨w0,hw0⟩:∃ w0,w0=((w.alloc (.cells #[.int .i64 qx,.int .i64 qd,.bool qb] 83)).alloc (.cells #[.int .i64 (f:Int),.int .i64 (m:Int),.int .i64 s,.int .i64 o,.int .i64 i,.int .i64 u] 86)).alloc (.cells #[.int .i64 0,.int .i64 0,.bool false] 83):=⟨_,rfl⟩
 have hb0:Below w.heap.size w w0:=by rw[hw0];exact bel
 have hk2:=zad hb0 hk
 have hk3:=hk2
 rw[hw0] at hk3
 have a0:w0.cell? ⟨w.heap.size,0,none⟩=some (.int .i64 qx):=by rw[hw0];simp[go_sem]
 have a1:w0.cell? ⟨w.heap.size,1,none⟩=some (.int .i64 qd):=by rw[hw0];simp[go_sem]
 have a2:w0.cell? ⟨w.heap.size,2,none⟩=some (.bool qb):=by rw[hw0];simp[go_sem]
 have g0:w0.cell? ⟨w.heap.size+1,0,none⟩=some (.int .i64 (f:Int)):=by rw[hw0];simp[go_sem]
 have g1:w0.cell? ⟨w.heap.size+1,1,none⟩=some (.int .i64 (m:Int)):=by rw[hw0];simp[go_sem]
 have g2:w0.cell? ⟨w.heap.size+1,2,none⟩=some (.int .i64 s):=by rw[hw0];simp[go_sem]
 have g3:w0.cell? ⟨w.heap.size+1,3,none⟩=some (.int .i64 o):=by rw[hw0];simp[go_sem]
 have g4:w0.cell? ⟨w.heap.size+1,4,none⟩=some (.int .i64 i):=by rw[hw0];simp[go_sem]
 have g5:w0.cell? ⟨w.heap.size+1,5,none⟩=some (.int .i64 u):=by rw[hw0];simp[go_sem]
 have r0:w0.cell? ⟨w.heap.size+1+1,0,none⟩=some (.int .i64 0):=by rw[hw0];simp[go_sem]
 have r1:w0.cell? ⟨w.heap.size+1+1,1,none⟩=some (.int .i64 0):=by rw[hw0];simp[go_sem]
 have r2:w0.cell? ⟨w.heap.size+1+1,2,none⟩=some (.bool false):=by rw[hw0];simp[go_sem]
 have f0:w0.frozen? ⟨w.heap.size+1+1,0,none⟩=false:=by rw[hw0];simp[go_sem]
 have f1:w0.frozen? ⟨w.heap.size+1+1,1,none⟩=false:=by rw[hw0];simp[go_sem]
 have f2:w0.frozen? ⟨w.heap.size+1+1,2,none⟩=false:=by rw[hw0];simp[go_sem]
 have hz0:w.heap.size+3<=w0.heap.size:=by rw[hw0];simp[go_sem]
 by_cases e1:(f:Int)<=k/\k<(f:Int)+(m:Int)
 ·rw[if_pos e1] at hv
  simp only[Prod.mk.injEq] at hv
  obtain⟨h1,rfl,rfl⟩:=hv
  obtain⟨p,hp⟩:∃ p,(k - (f:Int)) * o=p:=⟨_,rfl⟩
  have hp2:-25<=p/\p<=25:=by
   rw[<- hp]
   obtain⟨t,ht⟩:∃ t:Nat,k=(f:Int)+(t:Int):=⟨(k - f).toNat,qg⟩
   have ht2:t<5:=qg
   rw[show k - (f:Int)=(t:Int) by omega]
   rcases (show t=0\/t=1\/t=2\/t=3\/t=4 by omega) with rfl|rfl|rfl|rfl|rfl <;> simp <;> omega
  rw[hp] at h1
  have HP:Hid ((k - (f:Int)) * o=p):=hp
  have HY:Hid (s+p=vx):=h1.symm
  have HE:Hid ((f:Int)<=k/\k<(f:Int)+(m:Int)):=e1
  clear hp h1 e1
  go_enter (zfx func45),ntmps45
  go_wp2_with fail
  rw[<- hw0]
  clear hw0 hk3
  refine(zez _ _ _ _ _ _ _ qg qg true (decide_eq_true HE.out).symm _).mono ?_
  rintro e w1 ⟨rfl,hb1⟩
  have hz1:=hb1.size
  have hB1:=zai hb0 hb0.size hb1
  replace f0:=zal hb1 r0 f0
  replace f1:=zal hb1 r1 f1
  replace f2:=zal hb1 r2 f2
  replace hk2:=zad hb1 hk2;replace g0:=zad hb1 g0;replace g1:=zad hb1 g1;replace g2:=zad hb1 g2;replace g3:=zad hb1 g3;replace g4:=zad hb1 g4;replace g5:=zad hb1 g5;replace r0:=zad hb1 r0;replace r1:=zad hb1 r1;replace r2:=zad hb1 r2
  clear hb0 hb1 a0 a1 a2
  go_wp2_with fail
  refine(znK _ _ _ _ _ _ _ p vx qg (by have:=HE.out;omega) HP.out qg qg HY.out _).mono ?_
  rintro e w2 ⟨rfl,hb2⟩
  have hz2:=hb2.size
  have hB2:=zai hB1 hB1.size hb2
  replace f0:=zal hb2 r0 f0
  replace f1:=zal hb2 r1 f1
  replace f2:=zal hb2 r2 f2
  replace r0:=zad hb2 r0;replace r1:=zad hb2 r1;replace r2:=zad hb2 r2
  clear hb2 hB1 g0 g1 g2 g3 g4 g5 hk2
  go_wp2
  refine bodyPost_ret (v:=.agg #[.int .i64 vx,.int .i64 vd,.bool true]) (by simp[results,results45,go_sem,r0,r1,r2]) rfl ⟨rfl,?_⟩
  repeat (refine Below.setCell ?_ qq _)
  exact hB2
 ·rw[if_neg e1] at hv
  simp only[Prod.mk.injEq] at hv
  obtain⟨rfl,rfl,rfl⟩:=hv
  have HE:Hid (¬ ((f:Int)<=k/\k<(f:Int)+(m:Int))):=e1
  clear e1
  go_enter (zfx func45),ntmps45
  go_wp2_with fail
  rw[<- hw0]
  clear hw0 hk3
  refine(zez _ _ _ _ _ _ _ qg qg false (decide_eq_false HE.out).symm _).mono ?_
  rintro e w1 ⟨rfl,hb1⟩
  have hz1:=hb1.size
  have hB1:=zai hb0 hb0.size hb1
  replace f0:=zal hb1 r0 f0
  replace f1:=zal hb1 r1 f1
  replace f2:=zal hb1 r2 f2
  replace a0:=zad hb1 a0;replace a1:=zad hb1 a1;replace a2:=zad hb1 a2;replace r0:=zad hb1 r0;replace r1:=zad hb1 r1;replace r2:=zad hb1 r2
  clear hb0 hb1 hk2 g0 g1 g2 g3 g4 g5
  go_wp2
  refine bodyPost_ret (v:=.agg #[.int .i64 vx,.int .i64 vd,.bool vb]) (by simp[results,results45,go_sem,r0,r1,r2]) rfl ⟨rfl,?_⟩
  repeat (refine Below.setCell ?_ qq _)
  exact hB1
