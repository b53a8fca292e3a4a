/- Part. -/
import Derived.Deep.QuietTactic
import Derived.Laws.Bits64
import Derived.Test.YtefakaeblcafmaaGreatNAq
set_option maxHeartbeats 4000000
set_option maxRecDepth 20000
set_option linter.unusedVariables false
namespace Go.Proofs.YtefakaeblcafmaaGreat
variable{K:Act->World->Prop}{p:Addr}{wd:Int}{cs xs:List (Int × Int)}{B L P P' b c n ob off rb:Nat}{f:Nat->Int}{o:Obj}{a:Option Addr}{r:Option Nat}{v:Value}{w w' w2 wr:World}
open Tryz
namespace Sp
open Go.RowKit
structure Rd(w:World)(rb:Nat)(a:Option Addr)(b off n cap:Nat)(f:Nat->Int)(p:Nat):Prop where
 c0:w.cell? ⟨rb,0,none⟩=some (.slice a n cap)
 c1:w.cell? ⟨rb,1,none⟩=some (.int .i64 (p:Int))
 fr:w.frozen? ⟨rb,1,none⟩=false
 ha:0<n->a=some ⟨b,off,none⟩
 bytes:∀ i,i<n->w.cell? ⟨b,off+i,none⟩=some (.int .u8 (f i))
 range:∀ i,0<=f i/\f i<=255
 ne:0<n->b≠rb
 hn:n<=2000
theorem Rd.kept{cap:Nat}{p:Nat}(h:Rd w rb a b off n cap f p)(hb:Below w.heap.size w w'):Rd w' rb a b off n cap f p :=
 ⟨zad hb h.c0,zad hb h.c1,zal hb h.c1 h.fr,h.ha,fun i hi=>zad hb (h.bytes i hi),h.range,h.ne,h.hn⟩
theorem zq6(a b:Nat)(ha:a<9223372036854775808)(hb:b<9223372036854775808):bits .xor .i64 (a:Int) (b:Int)=((a ^^^ b:Nat):Int):=by
 have hx:a ^^^ b<2 ^ 63:=Nat.xor_lt_two_pow qg qg
 have h1:(BitVec.ofInt 64 (a:Int)).toNat=a:=by
  rw[BitVec.ofInt_natCast,BitVec.toNat_ofNat];exact Nat.mod_eq_of_lt qg
 have h2:(BitVec.ofInt 64 (b:Int)).toNat=b:=by
  rw[BitVec.ofInt_natCast,BitVec.toNat_ofNat];exact Nat.mod_eq_of_lt qg
 show IntKind.i64.wrap ((BitVec.ofInt 64 (a:Int) ^^^ BitVec.ofInt 64 (b:Int)).toNat:Int)=_
 rw[BitVec.toNat_xor,h1,h2]
 exact IntWalk.i64_in _ qg
theorem zrV{cap:Nat}{p:Nat}(h:Rd w rb a b off n cap f p)(nq:Nat) :
  Rd ((w.setCell ⟨rb,1,none⟩ (.int .i64 ((p:Int)+1))).drewN nq) rb a b off n cap f (p+1)/\w.grownBy ((w.setCell ⟨rb,1,none⟩ (.int .i64 ((p:Int)+1))).drewN nq) (some rb):=by
 refine⟨⟨?_,?_,?_,h.ha,fun i hi=>?_,h.range,h.ne,h.hn⟩,⟨rfl,rfl,rfl,by simp[World.setCell,World.drewN],fun k _ hk=>?_⟩⟩
 ·rw[World.cell?_drewN,World.cell?_setCell_other _ _ _ _ qk];exact h.c0
 ·rw[World.cell?_drewN,World.cell?_setCell_same _ _ _ h.c1];simp
 ·show ((w.setCell ⟨rb,1,none⟩ (.int .i64 ((p:Int)+1)))).frozen? _=_
  rw[World.frozen?_setCell];exact h.fr
 ·rw[World.cell?_drewN];exact zev (h.ne qg) (h.bytes i hi)
 ·exact Below.heap_setCell w ⟨rb,1,none⟩ _ k (by intro e;exact hk (by simp[e]))
theorem zpD(m:Int)(w:World)(rb:Nat)(a:Option Addr)(b off n cap:Nat)(f:Nat->Int)(p:Nat)(h:Rd w rb a b off n cap f p)(hp:p<=1000000)(hm:1<=m/\m<=1000000) :
  Calls SqP.prog 21 #[.pointer (some ⟨rb,0,none⟩),.int .i64 m] w fun e w'=>∃ v:Int,e=.returned (.int .i64 v)/\0<=v/\v<m/\Rd w' rb a b off n cap f (p+1)/\w.grownBy w' (some rb):=by
 have HP:=zrV h
 obtain⟨c0,c1,fr,ha,bytes,range,ne,hn⟩:=h
 by_cases h0:n=0
 ·subst h0
  go_enter (zfx func21),ntmps21
  go_wp2
  go_ret
  exact⟨0,rfl,qg,qg,HP 0⟩
 obtain rfl:=ha qg
 have hne:=ne qg
 have hn0:((n:Int) == 0)=false:=ql
 by_cases hk:p<n
 ·have hx:=bytes p hk
  have r1:=range p
  have hx2:(w.setCell ⟨rb,1,none⟩ (.int .i64 ((p:Int)+1))).cell? ⟨b,off+p,none⟩=some (.int .u8 (f p)):=zev hne hx
  generalize f p=x at *
  have m1:0<=x % m:=Int.emod_nonneg _ qg
  have m2:x % m<m:=Int.emod_lt_of_pos _ qg
  clear bytes range ne ha
  go_enter (zfx func21),ntmps21
  go_wp2
  go_ret
  exact⟨_,rfl,m1,m2,HP 0⟩
 ·have l1:p % n<n:=Nat.mod_lt _ qg
  have l2:(p * 7+3) % n<n:=Nat.mod_lt _ qg
  have hx1:(w.setCell ⟨rb,1,none⟩ (.int .i64 ((p:Int)+1))).cell? ⟨b,off+p % n,none⟩=some (.int .u8 (f (p % n))):=zev hne (bytes _ l1)
  have hx2:(w.setCell ⟨rb,1,none⟩ (.int .i64 ((p:Int)+1))).cell? ⟨b,off+(p * 7+3) % n,none⟩=some (.int .u8 (f ((p * 7+3) % n))):=zev hne (bytes _ l2)
  have r1:=range (p % n)
  have r2:=range ((p * 7+3) % n)
  generalize f (p % n)=x1 at *
  generalize f ((p * 7+3) % n)=x2 at *
  have q1:(0:Int)<=(p:Int) % (n:Int):=Int.emod_nonneg _ qg
  have q2:(p:Int) % (n:Int)<(n:Int):=Int.emod_lt_of_pos _ qg
  have q3:(0:Int)<=((p:Int) * 7+3) % (n:Int):=Int.emod_nonneg _ qg
  have q4:((p:Int) * 7+3) % (n:Int)<(n:Int):=Int.emod_lt_of_pos _ qg
  have q5:(0:Int)<=(p:Int) / (n:Int):=Int.ediv_nonneg qg qg
  have q6:(p:Int) / (n:Int)<=(p:Int):=Int.ediv_le_self _ qg
  have t1:((p:Int) % (n:Int)).toNat=p % n:=by have:((p % n:Nat):Int)=(p:Int) % (n:Int):=qk
                                              omega
  have t2:(((p:Int) * 7+3) % (n:Int)).toNat=(p * 7+3) % n:=by have:(((p * 7+3) % n:Nat):Int)=((p:Int) * 7+3) % (n:Int):=qk
                                                              omega
  obtain⟨X,hX⟩:∃ X:Nat,x1 * 131+x2 * 1117+(p:Int) * 29+(p:Int) / (n:Int) * 53=(X:Int):=Int.eq_ofNat_of_zero_le qg
  have hXb:X<=1000000000:=qg
  have hY:bits .xor .i64 (X:Int) ((X:Int) / 64)=((X ^^^ X / 64:Nat):Int):=by
   have:=zq6 X (X / 64) qg qg
   simpa using this
  have hYb:X ^^^ X / 64<2 ^ 32:=Nat.xor_lt_two_pow qg qg
  generalize X ^^^ X / 64=Y at *
  have m1:0<=(Y:Int) % m:=Int.emod_nonneg _ qg
  have m2:(Y:Int) % m<m:=Int.emod_lt_of_pos _ qg
  have HX:Hid (x1 * 131+x2 * 1117+(p:Int) * 29+(p:Int) / (n:Int) * 53=(X:Int)):=hX
  have HY:Hid (bits .xor .i64 (X:Int) ((X:Int) / 64)=(Y:Int)):=hY
  have hYc:(Y:Int)<=4294967296:=qg
  clear bytes range ne ha hX hY hYb
  go_enter (zfx func21),ntmps21
  go_wp2
  go_quiet (fail)
  go_wp2
  go_ret
  have e:(bits BinOp.xor IntKind.i64 (x1 * 131+x2 * 1117+(p:Int) * 29+(p:Int) / (n:Int) * 53) ((x1 * 131+x2 * 1117+(p:Int) * 29+(p:Int) / (n:Int) * 53) / 64)).tmod m=(Y:Int) % m:=by
   rw[HX.out,HY.out]
   exact Int.tmod_eq_emod_of_nonneg qg
  exact⟨(Y:Int) % m,congrArg (fun z=>Ending.returned (.int .i64 z)) e,m1,m2,HP _⟩
theorem zcX(h:w.grownBy w' (some rb))(h2:w'.grownBy w2 (some rb)):w.grownBy w2 (some rb) :=
 ⟨h2.os.trans h.os,h2.tape.trans h.tape,h2.output.trans h.output,Nat.le_trans h.size h2.size,fun k hk hne=>(h2.block k (nll hk h.size) hne).trans (h.block k hk hne)⟩
theorem zeK(h:w.grownBy w' (some rb))(h2:Below w'.heap.size w' w2):w.grownBy w2 (some rb) :=
 ⟨h2.os.trans h.os,h2.tape.trans h.tape,h2.output.trans h.output,Nat.le_trans h.size h2.size,fun k hk hne=>(h2.block k (nll hk h.size)).trans (h.block k hk hne)⟩
theorem zck(h:Below w.heap.size w w'):w.grownBy w' (some rb):=⟨h.os,h.tape,h.output,h.size,fun k hk _=>h.block k hk⟩
def RdQ(w:World)(rb L P:Nat):Prop:=∃ a b off n cap f p,Rd w rb a b off n cap f p/\p<=P/\rb<L/\(0<n->b<L)
theorem RdQ.below(h:RdQ w rb L P)(hb:Below L w w'):RdQ w' rb L P:=by
 obtain⟨a,b,off,n,cap,f,p,h,hp,h1,h2⟩:=h
 exact⟨a,b,off,n,cap,f,p,⟨(hb.cell (p:=⟨rb,0,none⟩) h1).trans h.c0,(hb.cell (p:=⟨rb,1,none⟩) h1).trans h.c1,(hb.frozen (p:=⟨rb,1,none⟩) h1).trans h.fr,h.ha,fun i hi=>(hb.cell (p:=⟨b,_,none⟩) (h2 qg)).trans (h.bytes i hi),h.range,h.ne,h.hn⟩,hp,h1,h2⟩
theorem RdQ.more(h:RdQ w rb L P)(hp:P<=P'):RdQ w rb L P':=by
 obtain⟨a,b,off,n,cap,f,p,h,hq,h1,h2⟩:=h
 exact⟨a,b,off,n,cap,f,p,h,qg,h1,h2⟩
theorem RdQ.lt(h:RdQ w rb L P):rb<L/\rb<w.heap.size:=by
 obtain⟨a,b,off,n,cap,f,p,h,hq,h1,h2⟩:=h
 exact⟨h1,World.block_lt_of_cell? w _ h.c0⟩
theorem zbz(m:Int)(w:World)(rb L P:Nat)(h:RdQ w rb L P)(hp:P<=1000000)(hm:1<=m/\m<=1000000) :
  Calls SqP.prog 21 #[.pointer (some ⟨rb,0,none⟩),.int .i64 m] w fun e w'=>∃ v:Int,e=.returned (.int .i64 v)/\0<=v/\v<m/\RdQ w' rb L (P+1)/\w.grownBy w' (some rb):=by
 obtain⟨a,b,off,n,cap,f,p,h,hq,h1,h2⟩:=h
 refine(zpD m w rb a b off n cap f p h qg hm).mono ?_
 rintro e w' ⟨v,rfl,hv1,hv2,hr,hg⟩
 exact⟨v,rfl,hv1,hv2,⟨a,b,off,n,cap,f,p+1,hr,qg,h1,h2⟩,hg⟩
theorem zaC{o:Nat}(hg:w.grownBy w' (some rb))(hne:b≠rb)(h:w.cell? ⟨b,o,none⟩=some v):w'.cell? ⟨b,o,none⟩=some v:=hg.cell h (by simpa using hne)
theorem zbx{o:Nat}{c:Bool}(hg:w.grownBy w' (some rb))(hne:b≠rb)(h:w.cell? ⟨b,o,none⟩=some v)(hf:w.frozen? ⟨b,o,none⟩=c):w'.frozen? ⟨b,o,none⟩=c :=
 (World.frozen?_of_block (a:=⟨b,o,none⟩) (hg.block b (World.block_lt_of_cell? w _ h) (by simpa using hne))).trans hf
theorem zhL(hg:w.grownBy w' (some rb))(hp:w.heap.size<=p.block)(u:Value):w.grownBy (w'.setCell p u) (some rb) :=
 ⟨hg.os,hg.tape,hg.output,by simpa [World.setCell] using hg.size,fun k hk hne=>(Below.heap_setCell w' p u k qg).trans (hg.block k hk hne)⟩
theorem zqx(hg:w.grownBy w' (some rb))(o:Obj):w.grownBy (w'.alloc o) (some rb):=zeK hg ((Below.refl _ _).alloc (Nat.le_refl _) o)
theorem zjp(w:World)(rb L P:Nat)(h:RdQ w rb L P)(hp:P<=999000)(hL:L<=w.heap.size) :
  Calls SqP.prog 83 #[.pointer (some ⟨rb,0,none⟩)] w fun e w'=>∃ k l:Int,e=.returned (.agg #[.int .i64 k,.int .i64 l])/\okC k l=true/\RdQ w' rb L (P+2)/\w.grownBy w' (some rb):=by
 have hrb:=h.lt
 have hbX:Below w.heap.size w (w.alloc (.cells #[.int .i64 0,.int .i64 0] 60)):=bel
 have hX:=h.below (hbX.mono hL)
 go_enter (zfx func83),ntmps83
 go_wp2_with fail
 refine(zbz 12 _ rb L P hX qg qg).mono ?_
 rintro e w1 ⟨v,rfl,hv1,hv2,hr1,hg1'⟩
 have hne:w.heap.size≠rb:=qg
 have q0:w1.cell? ⟨w.heap.size,0,none⟩=some (.int .i64 0):=zaC hg1' hne qj
 have q1:w1.cell? ⟨w.heap.size,1,none⟩=some (.int .i64 0):=zaC hg1' hne qj
 have f0:w1.frozen? ⟨w.heap.size,0,none⟩=false:=zbx hg1' hne (v:=.int .i64 0) qj qj
 have f1:w1.frozen? ⟨w.heap.size,1,none⟩=false:=zbx hg1' hne (v:=.int .i64 0) qj qj
 have hg1:w.grownBy w1 (some rb):=zcX (zck hbX) hg1'
 have hr2:=hr1.more (P':=P+2) qg
 have fin:∀ k l:Int,RdQ ((w1.setCell ⟨w.heap.size,0,none⟩ (.int .i64 k)).setCell ⟨w.heap.size,1,none⟩ (.int .i64 l)) rb L (P+2)/\w.grownBy ((w1.setCell ⟨w.heap.size,0,none⟩ (.int .i64 k)).setCell ⟨w.heap.size,1,none⟩ (.int .i64 l)) (some rb):=fun k l =>
  ⟨hr2.below (((Below.refl _ _).setCell (p:=⟨w.heap.size,0,none⟩) hL _).setCell (p:=⟨w.heap.size,1,none⟩) hL _),zhL (zhL hg1 (p:=⟨w.heap.size,0,none⟩) (Nat.le_refl _) _) (p:=⟨w.heap.size,1,none⟩) (Nat.le_refl _) _⟩
 have FIN:Hid (∀ k l:Int,RdQ ((w1.setCell ⟨w.heap.size,0,none⟩ (.int .i64 k)).setCell ⟨w.heap.size,1,none⟩ (.int .i64 l)) rb L (P+2)/\w.grownBy ((w1.setCell ⟨w.heap.size,0,none⟩ (.int .i64 k)).setCell ⟨w.heap.size,1,none⟩ (.int .i64 l)) (some rb)):=fin
 clear fin
 rcases (show v=0\/v=1\/v=2\/v=3\/v=4\/v=5\/v=6\/v=7\/v=8\/9<=v by omega) with rfl|rfl|rfl|rfl|rfl|rfl|rfl|rfl|rfl|h9
 ·go_wp2
  exact bodyPost_ret (v:=.agg #[.int .i64 1,.int .i64 0]) (by simp[results,results83,go_sem,q0,q1]) rfl ⟨1,0,rfl,by simp[okC],(FIN.out 1 0)⟩
 ·go_wp2
  exact bodyPost_ret (v:=.agg #[.int .i64 2,.int .i64 0]) (by simp[results,results83,go_sem,q0,q1]) rfl ⟨2,0,rfl,by simp[okC],(FIN.out 2 0)⟩
 ·go_wp2
  exact bodyPost_ret (v:=.agg #[.int .i64 2,.int .i64 0]) (by simp[results,results83,go_sem,q0,q1]) rfl ⟨2,0,rfl,by simp[okC],(FIN.out 2 0)⟩
 ·go_wp2
  exact bodyPost_ret (v:=.agg #[.int .i64 3,.int .i64 0]) (by simp[results,results83,go_sem,q0,q1]) rfl ⟨3,0,rfl,by simp[okC],(FIN.out 3 0)⟩
 ·go_wp2
  exact bodyPost_ret (v:=.agg #[.int .i64 3,.int .i64 0]) (by simp[results,results83,go_sem,q0,q1]) rfl ⟨3,0,rfl,by simp[okC],(FIN.out 3 0)⟩
 ·go_wp2
  exact bodyPost_ret (v:=.agg #[.int .i64 4,.int .i64 0]) (by simp[results,results83,go_sem,q0,q1]) rfl ⟨4,0,rfl,by simp[okC],(FIN.out 4 0)⟩
 ·go_wp2
  exact bodyPost_ret (v:=.agg #[.int .i64 5,.int .i64 0]) (by simp[results,results83,go_sem,q0,q1]) rfl ⟨5,0,rfl,by simp[okC],(FIN.out 5 0)⟩
 ·go_wp2
  exact bodyPost_ret (v:=.agg #[.int .i64 6,.int .i64 0]) (by simp[results,results83,go_sem,q0,q1]) rfl ⟨6,0,rfl,by simp[okC],(FIN.out 6 0)⟩
 ·go_wp2_with fail
  refine(zbz 9 _ rb L (P+1) hr1 qg qg).mono ?_
  rintro e w2 ⟨u,rfl,hu1,hu2,hr3,hg2⟩
  replace f0:=zbx hg2 hne q0 f0
  replace f1:=zbx hg2 hne q1 f1
  replace q0:=zaC hg2 hne q0
  replace q1:=zaC hg2 hne q1
  have hg3:=zcX hg1 hg2
  go_wp2
  refine bodyPost_ret (v:=.agg #[.int .i64 7,.int .i64 (1+u)]) (by simp[results,results83,go_sem,q0,q1]) rfl ⟨7,1+u,rfl,by simp[okC];omega,?_,?_⟩
  ·exact hr3.below (((Below.refl _ _).setCell (p:=⟨w.heap.size,0,none⟩) hL _).setCell (p:=⟨w.heap.size,1,none⟩) hL _)
  ·exact zhL (zhL hg3 (p:=⟨w.heap.size,0,none⟩) (Nat.le_refl _) _) (p:=⟨w.heap.size,1,none⟩) (Nat.le_refl _) _
 ·go_wp2
  exact bodyPost_ret (v:=.agg #[.int .i64 0,.int .i64 0]) (by simp[results,results83,go_sem,q0,q1]) rfl ⟨0,0,rfl,by simp[okC],(FIN.out 0 0)⟩
end Sp
namespace Sp
open Go.RowKit
attribute [local go_sem ↓] Go.wp_at_zero Go.wp_at_succ
theorem zlr(w:World)(rb L P:Nat)(h:RdQ w rb L P)(hp:P<=999000)(hL:L<=w.heap.size) :
  Calls SqP.prog 55 #[.pointer (some ⟨rb,0,none⟩)] w fun e w'=>∃ k l:Int,e=.returned (.agg #[.int .i64 k,.int .i64 l])/\RdQ w' rb L (P+1)/\w.grownBy w' (some rb):=by
 have hrb:=h.lt
 have hbX:Below w.heap.size w ((w.alloc (.cells #[.int .i64 0,.int .i64 0] 60)).alloc (.cells #[.int .i64 (-1),.int .i64 0,.int .i64 8,.int .i64 0,.int .i64 7,.int .i64 0,.int .i64 7,.int .i64 10,.int .i64 1,.int .i64 1,.int .i64 0,.int .i64 0] 60)):=bel
 have hX:=h.below (hbX.mono hL)
 go_enter (zfx func55),ntmps55
 go_wp2_with fail
 refine(zbz 6 _ rb L P hX qg qg).mono ?_
 rintro e w1 ⟨v,rfl,hv1,hv2,hr1,hg1'⟩
 have hne:w.heap.size≠rb:=qg
 have hne2:w.heap.size+1≠rb:=qg
 have q0:w1.cell? ⟨w.heap.size,0,none⟩=some (.int .i64 0):=zaC hg1' hne qj
 have q1:w1.cell? ⟨w.heap.size,1,none⟩=some (.int .i64 0):=zaC hg1' hne qj
 have f0:w1.frozen? ⟨w.heap.size,0,none⟩=false:=zbx hg1' hne (v:=.int .i64 0) qj qj
 have f1:w1.frozen? ⟨w.heap.size,1,none⟩=false:=zbx hg1' hne (v:=.int .i64 0) qj qj
 have hg1:w.grownBy w1 (some rb):=zcX (zck hbX) hg1'
 have FIN:Hid (∀ k l:Int,RdQ ((w1.setCell ⟨w.heap.size,0,none⟩ (.int .i64 k)).setCell ⟨w.heap.size,1,none⟩ (.int .i64 l)) rb L (P+1)/\w.grownBy ((w1.setCell ⟨w.heap.size,0,none⟩ (.int .i64 k)).setCell ⟨w.heap.size,1,none⟩ (.int .i64 l)) (some rb)):=fun k l =>
  ⟨hr1.below (((Below.refl _ _).setCell (p:=⟨w.heap.size,0,none⟩) hL _).setCell (p:=⟨w.heap.size,1,none⟩) hL _),zhL (zhL hg1 (p:=⟨w.heap.size,0,none⟩) (Nat.le_refl _) _) (p:=⟨w.heap.size,1,none⟩) (Nat.le_refl _) _⟩
 have z0:w1.cell? ⟨w.heap.size+1,0,none⟩=some (.int .i64 (-1)):=zaC hg1' hne2 qj
 have z1:w1.cell? ⟨w.heap.size+1,1,none⟩=some (.int .i64 0):=zaC hg1' hne2 qj
 have z2:w1.cell? ⟨w.heap.size+1,2,none⟩=some (.int .i64 8):=zaC hg1' hne2 qj
 have z3:w1.cell? ⟨w.heap.size+1,3,none⟩=some (.int .i64 0):=zaC hg1' hne2 qj
 have z4:w1.cell? ⟨w.heap.size+1,4,none⟩=some (.int .i64 7):=zaC hg1' hne2 qj
 have z5:w1.cell? ⟨w.heap.size+1,5,none⟩=some (.int .i64 0):=zaC hg1' hne2 qj
 have z6:w1.cell? ⟨w.heap.size+1,6,none⟩=some (.int .i64 7):=zaC hg1' hne2 qj
 have z7:w1.cell? ⟨w.heap.size+1,7,none⟩=some (.int .i64 10):=zaC hg1' hne2 qj
 have z8:w1.cell? ⟨w.heap.size+1,8,none⟩=some (.int .i64 1):=zaC hg1' hne2 qj
 have z9:w1.cell? ⟨w.heap.size+1,9,none⟩=some (.int .i64 1):=zaC hg1' hne2 qj
 have z10:w1.cell? ⟨w.heap.size+1,10,none⟩=some (.int .i64 0):=zaC hg1' hne2 qj
 have z11:w1.cell? ⟨w.heap.size+1,11,none⟩=some (.int .i64 0):=zaC hg1' hne2 qj
 clear hX hbX hg1'
 rcases (show v=0\/v=1\/v=2\/v=3\/v=4\/v=5 by omega) with rfl|rfl|rfl|rfl|rfl|rfl
 ·go_wp2
  exact bodyPost_ret (v:=.agg #[.int .i64 (-1),.int .i64 0]) (by simp[results,results55,go_sem,q0,q1]) rfl ⟨(-1),0,rfl,(FIN.out (-1) 0)⟩
 ·go_wp2
  exact bodyPost_ret (v:=.agg #[.int .i64 8,.int .i64 0]) (by simp[results,results55,go_sem,q0,q1]) rfl ⟨8,0,rfl,(FIN.out 8 0)⟩
 ·go_wp2
  exact bodyPost_ret (v:=.agg #[.int .i64 7,.int .i64 0]) (by simp[results,results55,go_sem,q0,q1]) rfl ⟨7,0,rfl,(FIN.out 7 0)⟩
 ·go_wp2
  exact bodyPost_ret (v:=.agg #[.int .i64 7,.int .i64 10]) (by simp[results,results55,go_sem,q0,q1]) rfl ⟨7,10,rfl,(FIN.out 7 10)⟩
 ·go_wp2
  exact bodyPost_ret (v:=.agg #[.int .i64 1,.int .i64 1]) (by simp[results,results55,go_sem,q0,q1]) rfl ⟨1,1,rfl,(FIN.out 1 1)⟩
 ·go_wp2
  exact bodyPost_ret (v:=.agg #[.int .i64 0,.int .i64 0]) (by simp[results,results55,go_sem,q0,q1]) rfl ⟨0,0,rfl,(FIN.out 0 0)⟩
def BytesAt(w:World)(a:Option Addr)(n:Nat)(f:Nat->Int):Prop :=
 (∀ i,0<=f i/\f i<=255)/\(n=0\/∃ b off,a=some ⟨b,off,none⟩/\b<w.heap.size/\∀ i,i<n->w.cell? ⟨b,off+i,none⟩=some (.int .u8 (f i)))
theorem BytesAt.below(h:BytesAt w a n f)(hb:Below w.heap.size w w'):BytesAt w' a n f:=by
 obtain⟨h1,h2⟩:=h
 refine⟨h1,?_⟩
 rcases h2 with h2|⟨b,off,rfl,hbl,hc⟩
 ·exact Or.inl h2
 ·exact Or.inr ⟨b,off,rfl,nll hbl hb.size,fun i hi=>zad hb (hc i hi)⟩
theorem znu{cap:Nat}(h:BytesAt w a n f)(hn:n<=2000) :
  RdQ (w.alloc (.cells #[.slice a n cap,.int .i64 0] 56)) w.heap.size (w.heap.size+1) 0:=by
 obtain⟨h1,h2⟩:=h
 have hb:Below w.heap.size w (w.alloc (.cells #[.slice a n cap,.int .i64 0] 56)):=bel
 rcases h2 with h2|⟨b,off,rfl,hbl,hc⟩
 ·subst h2
  exact⟨a,0,0,0,cap,f,0,⟨qj,qj,qj,qg,qg,h1,qg,qg⟩,qg,qg,qg⟩
 ·exact⟨_,b,off,n,cap,f,0,⟨qj,qj,qj,fun _=>rfl,fun i hi=>zad hb (hc i hi),h1,fun _=>qg,hn⟩,qg,qg,qg⟩
theorem BytesAt.cut{m:Nat}(h:BytesAt w a n f)(hm:m<=n):BytesAt w a m f:=by
 obtain⟨h1,h2⟩:=h
 refine⟨h1,?_⟩
 rcases h2 with h2|⟨b,off,rfl,hbl,hc⟩
 ·exact Or.inl qg
 ·exact Or.inr ⟨b,off,rfl,hbl,fun i hi=>hc i qg⟩
theorem zlq(a:Option Addr)(n cap:Nat)(f:Nat->Int)(w:World)(h:BytesAt w a n f)(hn:n<=1048576)(hcap:n<=cap)(hc2:cap<=9223372036854775807) :
  Calls SqP.prog 11 #[.slice a n cap] w fun e w'=>e=.returned (.pointer (some ⟨w.heap.size,0,none⟩))/\RdQ w' w.heap.size (w.heap.size+1) 0/\Below w.heap.size w w':=by
 by_cases h2:n<=2000
 ·go_enter (zfx func11),ntmps11
  go_wp2
  go_ret
  exact⟨rfl,znu h h2,bel⟩
 ·have hB:=h.2
  rcases hB with hB|⟨b,off,rfl,hbl,hc⟩
  ·omega
  go_enter (zfx func11),ntmps11
  go_wp2
  go_ret
  exact⟨rfl,znu (h.cut (m:=2000) qg) qg,bel⟩
theorem zp3{P:Program}{ops:Array Oper}{o:Oper}{a:Act}{Q:Exit->Act->World->Prop}{E:Prop}(hgd:o.guard=none)(f:FuncId)(x:Operand)(at_:TypeId)(ho:o.op=.call { callee:=.value (.func f),args:=#[x],argTypes:=#[at_] })(u:Value)(hv:a.eval x=u)(hrun:Sem.run P (callFunc f #[u]) w=.ok (.enter f #[u]) w)(hc:Calls P f #[u] w fun e w''=>∃ v,e=.returned v/\K (a.put o.dst v) w'') :
  if Region.wanted o (yielded ops a.tmps)=true then Oper.wp P o a w K Q else E:=by
 have hw:Region.wanted o (yielded ops a.tmps)=true:=by simp[Region.wanted,hgd]
 rw[if_pos hw]
 unfold Oper.wp
 have he:execOp a.eval o=callFunc f #[u]:=by
  subst hv
  obtain⟨dst,op,ty,pos,after,guard⟩:=o
  simp only at ho
  subst ho
  rw[execOp_call_go]
  simp
 rw[he,hrun,Oper.upon_enter]
 refine hc.mono ?_
 rintro e w'' ⟨v,rfl,hk⟩
 exact hk
theorem zgo(h:w.drew.grownBy w' r):w.grownBy w' r:=⟨h.os,h.tape,h.output,h.size,h.block⟩
theorem zmU(v:Value)(w:World):Sem.run SqP.prog (callFunc 83 #[v]) w=.ok (.enter 83 #[v]) w:=qh
structure zcN(w wr:World)(rb L P W ob:Nat)(xs:List (Int × Int))(a:Option Addr)(c:Nat):Prop where
 g:w.grownBy wr (some rb)
 rd:RdQ wr rb L P
 p4:wr.cell? ⟨w.heap.size,0,none⟩=some (.int .i64 0)
 p5:wr.cell? ⟨w.heap.size,1,none⟩=some (.slice none 0 0)
 f4:wr.frozen? ⟨w.heap.size,0,none⟩=false
 f5:wr.frozen? ⟨w.heap.size,1,none⟩=false
 o0:wr.cell? ⟨ob,0,none⟩=some (.int .i64 (W:Int))
 o1:wr.cell? ⟨ob,1,none⟩=some (.slice a xs.length c)
 fo:wr.frozen? ⟨ob,1,none⟩=false
 own:Own wr (ob+1) (.slice a xs.length c) xs
 ok:(xs.all fun c=>okC c.1 c.2)=true
 hL:L<=w.heap.size/\w.heap.size<ob/\rb<L
theorem zcN.call{W:Nat}(h:zcN w wr rb L P W ob xs a c)(hg:wr.grownBy w2 (some rb))(hr:RdQ w2 rb L P'):zcN w w2 rb L P' W ob xs a c:=by
 have hL:=h.hL
 have n1:w.heap.size≠rb:=qg
 have n2:ob≠rb:=qg
 refine⟨zcX h.g hg,hr,zaC hg n1 h.p4,zaC hg n1 h.p5,zbx hg n1 h.p4 h.f4,zbx hg n1 h.p5 h.f5,zaC hg n2 h.o0,zaC hg n2 h.o1,zbx hg n2 h.o1 h.fo,?_,h.ok,hL⟩
 refine World.ownsRow.kept h.own hg ?_
 cases hv:(Value.slice a xs.length c).ownBlock with
 | none=>exact Or.inl rfl
 | some k =>
  have:=World.ownsRow.lt h.own k hv
  refine Or.inr ?_
  simp only[ne_eq,Option.some.injEq]
  omega
theorem zcN.push{w5 w6:World}{W:Nat}{g6 k6:Nat}{x y:Int}(h:zcN w w5 rb L P W ob xs a c)(hg:(w5.alloc o).grownBy w6 (Value.slice a xs.length c).ownBlock)(hO:w6.ownsRow (ob+1) 60 2 (.slice (some ⟨g6,0,none⟩) (xs.length+1) k6) (xs.length+1) (flat xs++[.int .i64 x,.int .i64 y]))(hok:okC x y=true) :
  zcN w (w6.setCell ⟨ob,1,none⟩ (.slice (some ⟨g6,0,none⟩) (xs.length+1) k6)) rb L P W ob (xs++[(x,y)]) (some ⟨g6,0,none⟩) k6/\w6.cell? ⟨ob,1,none⟩=some (.slice a xs.length c)/\w6.frozen? ⟨ob,1,none⟩=false:=by
 have hL:=h.hL
 have hz:=h.g.size
 have rg:=World.ownsRow.lt h.own
 have rg6:=World.ownsRow.lt hO g6 rfl
 have hblk:∀ b,b<=ob->some b≠(Value.slice a xs.length c).ownBlock:=by
  intro b hb e
  have:=rg b e.symm
  omega
 have kp:∀ {bb oo:Nat} {v:Value},bb<=ob->w5.cell? ⟨bb,oo,none⟩=some v->w6.cell? ⟨bb,oo,none⟩=some v:=fun {bb oo v} hb hc =>
  hg.cell ((World.cell?_alloc_past _ _ _ (World.block_lt_of_cell? w5 _ hc)).trans hc) (hblk bb hb)
 have kf:∀ {bb oo:Nat} {v:Value} {t:Bool},bb<=ob->w5.cell? ⟨bb,oo,none⟩=some v->w5.frozen? ⟨bb,oo,none⟩=t->w6.frozen? ⟨bb,oo,none⟩=t:=fun {bb oo v t} hb hc hf=>by
  have hl:=World.block_lt_of_cell? w5 _ hc
  simp only at hl
  rw[World.frozen?_of_block (w:=w5.alloc o) (a:=⟨bb,oo,none⟩) (hg.block bb ql (hblk bb hb)),World.frozen?_of_block (w:=w5) (a:=⟨bb,oo,none⟩) (Below.heap_alloc w5 o bb hl)]
  exact hf
 have hl:(xs++[(x,y)]).length=xs.length+1:=qk
 have so:=World.block_lt_of_cell? w5 _ h.o1
 simp only at so
 have hB:Below (ob+1) w5 w6:=by
  refine((Below.refl _ _).alloc qg o).grown hg ql (fun k hk=>?_)
  exact(rg k hk).1
 have hgg:w.grownBy w6 (some rb) :=
  ⟨hB.os.trans h.g.os,hB.tape.trans h.g.tape,hB.output.trans h.g.output,Nat.le_trans hz hB.size,fun k hk hne=>(hB.block k qg).trans (h.g.block k hk hne)⟩
 have n1:w.heap.size≠ob:=qg
 refine⟨⟨zhL hgg (p:=⟨ob,1,none⟩) (by show w.heap.size<=ob;omega) _,(h.rd.below (hB.mono qg)).below ((Below.refl _ _).setCell (p:=⟨ob,1,none⟩) (by show L<=ob;omega) _),zev n1 (kp qg h.p4),zev n1 (kp qg h.p5),zkQ n1 (kf qg h.p4 h.f4),zkQ n1 (kf qg h.p5 h.f5),?_,?_,?_,?_,?_,hL⟩,kp (Nat.le_refl _) h.o1,kf (Nat.le_refl _) h.o1 h.fo⟩
 ·rw[World.cell?_setCell_other _ _ _ _ qk]
  exact kp (Nat.le_refl _) h.o0
 ·rw[hl]
  exact World.cell?_setCell_same _ _ _ (kp (Nat.le_refl _) h.o1)
 ·rw[World.frozen?_setCell]
  exact kf (Nat.le_refl _) h.o1 h.fo
 ·rw[hl]
  have:w6.ownsRow (ob+1) 60 2 (.slice (some ⟨g6,0,none⟩) (xs.length+1) k6) (xs++[(x,y)]).length (flat (xs++[(x,y)])):=by rw[hl,zfn];exact hO
  exact ownsRow_setCell_below this qk _
 ·rw[List.all_append,h.ok]
  simp[hok]
theorem zbg{g cap:Nat}(h:Own w B (.slice (some ⟨g,0,none⟩) n cap) cs)(hne:g≠p.block)(u:Value):Own (w.setCell p u) B (.slice (some ⟨g,0,none⟩) n cap) cs:=by
 obtain⟨h1,h2⟩:=h
 refine⟨h1,?_⟩
 rcases h2 with ⟨h2,_⟩|⟨g',cap',cur,hv,hg,hh,r⟩
 ·simp at h2
 ·have hv':=hv
  simp only[Value.slice.injEq,Option.some.injEq,Addr.mk.injEq,and_true] at hv'
  exact Or.inr ⟨g',cap',cur,hv,hg,by rw[Below.heap_setCell _ _ _ _ (by rw[<- hv'.1];exact hne)];exact hh,r⟩
theorem znB{e:TypeId}{size:Nat}{xs:List Value}(h:w.ownsRow B e size v n xs)(hn:0<n):∃ g cap,v=.slice (some ⟨g,0,none⟩) n cap/\B<=g/\g<w.heap.size:=by
 rcases h.2 with ⟨_,h0⟩|⟨g,cap,cur,hv,hB,hg,_⟩
 ·omega
 ·exact⟨g,cap,hv,hB,(gei hg).1⟩
theorem zrf(V U:Nat)(h1:V<5)(h2:U<5):1<=(1+V) * (1+U)/\(1+V) * (1+U)<=25:=by
 rcases (show V=0\/V=1\/V=2\/V=3\/V=4 by omega) with rfl|rfl|rfl|rfl|rfl <;> omega
theorem zrT(W H:Nat)(xs:List (Int × Int))(hW:1<=W/\W<=5)(hH:1<=H/\H<=5)(hl:xs.length=W * H)(hok:(xs.all fun c=>okC c.1 c.2)=true):okG (W:Int) xs=true:=by
 refine zjC _ _ ?_ hok
 simp only[zb0,decide_eq_true_eq,hl]
 obtain⟨a,b⟩:=hW
 obtain⟨c,d⟩:=hH
 rcases (show W=1\/W=2\/W=3\/W=4\/W=5 by omega) with rfl|rfl|rfl|rfl|rfl <;> omega
theorem zjq(w:World)(rb L P:Nat)(h:RdQ w rb L P)(hp:P<=900000)(hL:L<=w.heap.size) :
  Calls SqP.prog 54 #[.pointer (some ⟨rb,0,none⟩)] w fun e w'=>∃ (W:Nat) (g c:Nat) (xs:List (Int × Int)),e=.returned (.agg #[.int .i64 (W:Int),.slice (some ⟨g,0,none⟩) xs.length c])/\okG (W:Int) xs=true/\Own w' w.heap.size (.slice (some ⟨g,0,none⟩) xs.length c) xs/\RdQ w' rb L (P+60)/\w.grownBy w' (some rb):=by
 obtain⟨i0,hi,iz0,iz1,iz2⟩:=info_parts (ze3 (aLt:=Sq.altP))
 have hrb:=h.lt
 have hbX:Below w.heap.size w (w.alloc (.cells #[.int .i64 0,.slice none 0 0] 25)):=bel
 have hX:=h.below (hbX.mono hL)
 go_enter (zfx func54),ntmps54
 go_wp2_with fail
 refine(zbz 5 _ rb L P hX qg qg).mono ?_
 rintro e w1 ⟨v,rfl,hv1,hv2,hr1,hg1'⟩
 obtain⟨V,rfl⟩:=Int.eq_ofNat_of_zero_le hv1
 have hne:w.heap.size≠rb:=qg
 have hz1:=hg1'.size
 simp at hz1
 have q0:w1.cell? ⟨w.heap.size,0,none⟩=some (.int .i64 0):=zaC hg1' hne qj
 have q1:w1.cell? ⟨w.heap.size,1,none⟩=some (.slice none 0 0):=zaC hg1' hne qj
 have f0:w1.frozen? ⟨w.heap.size,0,none⟩=false:=zbx hg1' hne (v:=.int .i64 0) qj qj
 have f1:w1.frozen? ⟨w.heap.size,1,none⟩=false:=zbx hg1' hne (v:=.slice none 0 0) qj qj
 have hg1:w.grownBy w1 (some rb):=zcX (zck hbX) hg1'
 have hbY:Below w1.heap.size w1 (w1.alloc (.cells #[.int .i64 (1+(V:Int)),.slice none 0 0] 25)):=bel
 have hI:zcN w (w1.alloc (.cells #[.int .i64 (1+(V:Int)),.slice none 0 0] 25)) rb L (P+1) (1+V) w1.heap.size [] none 0 :=
  ⟨zeK hg1 hbY,hr1.below (hbY.mono qg),zad hbY q0,zad hbY q1,zal hbY q0 f0,zal hbY q1 f1,qj,qj,qj,World.ownsRow_nil _ _ _ _,rfl,qg⟩
 clear hX hbX hg1' hr1 q0 q1 f0 f1 hg1 hbY
 have o0:=hI.o0
 go_wp2
 go_region_held3 (fun w'=>w'.cell? ⟨w1.heap.size,0,none⟩=some (.int .i64 (1+(V:Int))))
  (first|exact hI2.o0|go_keep)
  (first|(go_at_call 21;refine(zbz 5 _ rb L (P+1) (by first|exact hI.rd|exact hI.rd.below (Below.refl _ _).drew) qg qg).mono ?_;rintro e w2 ⟨u,rfl,hu1,hu2,hr2,hg2'⟩;have hg2:=zgo hg2';have hI2:=hI.call hg2 hr2;obtain⟨U,rfl⟩:=Int.eq_ofNat_of_zero_le hu1;obtain⟨N,hN⟩:∃ N:Nat,N=(1+V) * (1+U):=⟨_,rfl⟩;have hNi:(1+(V:Int)) * (1+(U:Int))=(N:Int):=(by rw[hN];simp);have hNb:1<=N/\N<=25:=(by rw[hN];exact zrf V U qg qg);have HN:Hid (N=(1+V) * (1+U)):=hN;clear hN))
 clear hI o0
 have hN1:(1:Int)<=(N:Int):=qg
 have hN2:(N:Int)<=25:=qg
 go_wp2
 go_loopw [4] (fun i wr=>∃ (t:Nat) (xs:List (Int × Int)) (a:Option Addr) (c:Nat),t<=N/\i=.int .i64 ((N:Int) - t)/\xs.length=t/\zcN w wr rb L (P+2+2 * t) (1+V) w1.heap.size xs a c) (fun i _=>(intOf i).toNat)
 case atStart=>exact⟨0,[],none,0,Nat.zero_le _,zsz (by rw[IntWalk.i64_in (1+(U:Int)) qg,hNi,IntWalk.i64_in _ qg];simp),rfl,hI2⟩
 case round =>
  clear hI2
  obtain⟨t,xs,a,c,ht,rfl,hxl,hI⟩:=hrel
  by_cases hlt:t<N
  ·have hz:=hI.g.size
   have so:=World.block_lt_of_cell? _ _ hI.o1
   simp only at so
   have hLL:=hI.hL
   obtain⟨o1,fo⟩:=And.intro hI.o1 hI.fo
   have hxb:xs.length<=25:=qg
   have HT:Hid (xs.length=t):=hxl
   have hlt2:(t:Int)<(N:Int):=qg
   clear hxl
   go_wp2
   go_region_law (first
    | (refine zp3 rfl 83 (.tmp 21) 38 rfl (.pointer (some ⟨rb,0,none⟩)) rfl (zmU _ _) ?_;refine(zjp _ rb L (P+2+2 * t) (by first|exact hI.rd|exact hI.rd.below (Below.refl _ _).drew) qg (by first|omega|(show L<=wr.heap.size;omega))).mono ?_;rintro e w5 ⟨kx,lx,rfl,hok5,hr5,hg5'⟩;refine⟨_,rfl,?_⟩;have hg5:wr.grownBy w5 (some rb):=(by first|exact hg5'|exact zgo hg5');have hI5:=hI.call hg5 hr5;have o5:=hI5.o1;have so5:w1.heap.size<w5.heap.size:=World.block_lt_of_cell? w5 _ hI5.o1)
    | (refine step_append_lies _ (by rfl) _ _ _ (by rfl) (w1.heap.size+1) 60 i0 (.agg #[.int .i64 0,.int .i64 0]) 2 16 SqP.underlying23 hi iz0 iz1 iz2 rfl qg (.slice a xs.length c) xs.length (flat xs) (by rfl) (by first|exact hI5.own.alloc _|exact(hI5.own.alloc _).drew) ⟨w5.heap.size,0,none⟩ 1 1 [.int .i64 kx,.int .i64 lx] (by rfl) (by rfl) (World.news_of_block (cs:=#[.int .i64 kx,.int .i64 lx]) (t:=60) (fr:=(0,0)) (heap_alloc_new w5 _)) qm qg qp qg ql (w5.heap.size+1) qk ?_;intro g6 k6 w6 hO6 hg6 hat6 hlt6;obtain⟨hI6,o6,fo6⟩:=hI5.push hg6 hO6 hok5))
   all_goals
    go_wp2
    go_roundw
    case rel=>exact⟨t+1,xs++[(kx,lx)],some ⟨g6,0,none⟩,k6,qg,zsz qg,by rw[List.length_append,HT.out];rfl,hI6⟩
    case measure=>simp only[intOf];omega
  ·have htN:t=N:=qg
   subst htN
   obtain⟨a',c',hv,hC⟩:=hI.own.slice
   have hg0:=znB hI.own qg
   obtain⟨g,cg,hv2,hgB,hgl⟩:=hg0
   simp only[Value.slice.injEq] at hv2
   obtain⟨rfl,_,rfl⟩:=hv2
   have hLL:=hI.hL
   have hz:=hI.g.size
   have hOK:=zrT (1+V) (1+U) xs qg qg (by rw[hxl];exact HN.out) hI.ok
   have hO:=hI.own
   have n1:g≠w.heap.size:=qg
   obtain⟨p4,p5,f4,f5,o0,o1⟩:=And.intro hI.p4 (And.intro hI.p5 (And.intro hI.f4 (And.intro hI.f5 (And.intro hI.o0 hI.o1))))
   have hg:=hI.g
   have hr:=hI.rd.more (P':=P+60) qg
   have HX:Hid (xs.length=t):=hxl
   clear hI hv hxl
   go_wp2
   refine bodyPost_ret (v:=.agg #[.int .i64 ((1+V:Nat):Int),.slice (some ⟨g,0,none⟩) xs.length c]) (by simp[results,results54,go_sem,p4,p5]) rfl ⟨1+V,g,c,xs,rfl,hOK,?_,?_,?_⟩
   ·have:=hO.mono (B':=w.heap.size) qg
    exact zbg (zbg this (p:=⟨w.heap.size,0,none⟩) n1 _) (p:=⟨w.heap.size,1,none⟩) n1 _
   ·exact hr.below (((Below.refl _ _).setCell (p:=⟨w.heap.size,0,none⟩) (by show L<=w.heap.size;omega) _).setCell (p:=⟨w.heap.size,1,none⟩) (by show L<=w.heap.size;omega) _)
   ·exact zhL (zhL hg (p:=⟨w.heap.size,0,none⟩) (Nat.le_refl _) _) (p:=⟨w.heap.size,1,none⟩) (Nat.le_refl _) _
structure zaQ(w wr:World)(rb L P ob:Nat)(wd:Int)(v:Value):Prop where
 g:w.grownBy wr (some rb)
 rd:RdQ wr rb L P
 p4:wr.cell? ⟨w.heap.size,0,none⟩=some (.int .i64 0)
 p5:wr.cell? ⟨w.heap.size,1,none⟩=some (.slice none 0 0)
 f4:wr.frozen? ⟨w.heap.size,0,none⟩=false
 f5:wr.frozen? ⟨w.heap.size,1,none⟩=false
 o0:wr.cell? ⟨ob,0,none⟩=some (.int .i64 wd)
 o1:wr.cell? ⟨ob,1,none⟩=some v
 fo0:wr.frozen? ⟨ob,0,none⟩=false
 fo1:wr.frozen? ⟨ob,1,none⟩=false
 hL:L<=w.heap.size/\w.heap.size<ob/\rb<L
theorem zaQ.call(h:zaQ w wr rb L P ob wd v)(hg:wr.grownBy w2 (some rb))(hr:RdQ w2 rb L P'):zaQ w w2 rb L P' ob wd v:=by
 have hL:=h.hL
 have n1:w.heap.size≠rb:=qg
 have n2:ob≠rb:=qg
 exact⟨zcX h.g hg,hr,zaC hg n1 h.p4,zaC hg n1 h.p5,zbx hg n1 h.p4 h.f4,zbx hg n1 h.p5 h.f5,zaC hg n2 h.o0,zaC hg n2 h.o1,zbx hg n2 h.o0 h.fo0,zbx hg n2 h.o1 h.fo1,hL⟩
theorem zaQ.below(h:zaQ w wr rb L P ob wd v)(hb:Below wr.heap.size wr w2):zaQ w w2 rb L P ob wd v:=by
 have hL:=h.hL
 have hz:=h.g.size
 exact⟨zeK h.g hb,h.rd.below (hb.mono qg),zad hb h.p4,zad hb h.p5,zal hb h.p4 h.f4,zal hb h.p5 h.f5,zad hb h.o0,zad hb h.o1,zal hb h.o0 h.fo0,zal hb h.o1 h.fo1,hL⟩
theorem zaQ.set1(h:zaQ w wr rb L P ob wd v)(v':Value):zaQ w (wr.setCell ⟨ob,1,none⟩ v') rb L P ob wd v':=by
 have hL:=h.hL
 have n1:w.heap.size≠ob:=qg
 refine⟨zhL h.g (p:=⟨ob,1,none⟩) (by show w.heap.size<=ob;omega) _,h.rd.below ((Below.refl _ _).setCell (p:=⟨ob,1,none⟩) (by show L<=ob;omega) _),zev n1 h.p4,zev n1 h.p5,zkQ n1 h.f4,zkQ n1 h.f5,?_,World.cell?_setCell_same _ _ _ h.o1,?_,?_,hL⟩
 ·rw[World.cell?_setCell_other _ _ _ _ qk];exact h.o0
 ·rw[World.frozen?_setCell];exact h.fo0
 ·rw[World.frozen?_setCell];exact h.fo1
theorem zaQ.set0(h:zaQ w wr rb L P ob wd v)(x:Int):zaQ w (wr.setCell ⟨ob,0,none⟩ (.int .i64 x)) rb L P ob x v:=by
 have hL:=h.hL
 have n1:w.heap.size≠ob:=qg
 refine⟨zhL h.g (p:=⟨ob,0,none⟩) (by show w.heap.size<=ob;omega) _,h.rd.below ((Below.refl _ _).setCell (p:=⟨ob,0,none⟩) (by show L<=ob;omega) _),zev n1 h.p4,zev n1 h.p5,zkQ n1 h.f4,zkQ n1 h.f5,World.cell?_setCell_same _ _ _ h.o0,?_,?_,?_,hL⟩
 ·rw[World.cell?_setCell_other _ _ _ _ qk];exact h.o1
 ·rw[World.frozen?_setCell];exact h.fo0
 ·rw[World.frozen?_setCell];exact h.fo1
theorem zaQ.setG(h:zaQ w wr rb L P ob wd v){g j:Nat}(h1:w.heap.size<g)(h2:g≠ob)(u:Value):zaQ w (wr.setCell ⟨g,j,none⟩ u) rb L P ob wd v:=by
 have hL:=h.hL
 have n1:w.heap.size≠g:=qg
 have n2:ob≠g:=fun e=>h2 e.symm
 exact⟨zhL h.g (p:=⟨g,j,none⟩) (by show w.heap.size<=g;omega) _,h.rd.below ((Below.refl _ _).setCell (p:=⟨g,j,none⟩) (by show L<=g;omega) _),zev n1 h.p4,zev n1 h.p5,zkQ n1 h.f4,zkQ n1 h.f5,zev n2 h.o0,zev n2 h.o1,zkQ n2 h.fo0,zkQ n2 h.fo1,hL⟩
theorem zaQ.far{w6:World}(h:zaQ w wr rb L P ob wd v){g:Nat}(hg:(wr.alloc o).grownBy w6 (some g))(h1:w.heap.size<g)(h2:g≠ob):zaQ w w6 rb L P ob wd v:=by
 have h0:=h.below (w2:=wr.alloc o) ((Below.refl _ _).alloc (Nat.le_refl _) o)
 have hL:=h.hL
 have n1:w.heap.size≠g:=qg
 have n2:ob≠g:=fun e=>h2 e.symm
 have hz:=h0.g.size
 have hgg:w.grownBy w6 (some rb) :=
  ⟨hg.os.trans h0.g.os,hg.tape.trans h0.g.tape,hg.output.trans h0.g.output,Nat.le_trans hz hg.size,fun k hk hne=>(hg.block k qg ql).trans (h0.g.block k hk hne)⟩
 have hB:Below L (wr.alloc o) w6:=(Below.refl _ _).grown hg qg (fun k hk=>by simp only[Option.some.injEq] at hk;omega)
 exact⟨hgg,h0.rd.below hB,zaC hg n1 h0.p4,zaC hg n1 h0.p5,zbx hg n1 h0.p4 h0.f4,zbx hg n1 h0.p5 h0.f5,zaC hg n2 h0.o0,zaC hg n2 h0.o1,zbx hg n2 h0.o0 h0.fo0,zbx hg n2 h0.o1 h0.fo1,hL⟩
theorem zaQ.out(h:zaQ w wr rb L P ob wd v)(x y:Value) :
  RdQ ((wr.setCell ⟨w.heap.size,0,none⟩ x).setCell ⟨w.heap.size,1,none⟩ y) rb L P/\w.grownBy ((wr.setCell ⟨w.heap.size,0,none⟩ x).setCell ⟨w.heap.size,1,none⟩ y) (some rb):=by
 have hL:=h.hL
 exact⟨h.rd.below (((Below.refl _ _).setCell (p:=⟨w.heap.size,0,none⟩) (by show L<=w.heap.size;omega) _).setCell (p:=⟨w.heap.size,1,none⟩) (by show L<=w.heap.size;omega) _),zhL (zhL h.g (p:=⟨w.heap.size,0,none⟩) (Nat.le_refl _) _) (p:=⟨w.heap.size,1,none⟩) (Nat.le_refl _) _⟩
theorem zaf.grown(h:zaf w a cs)(hg:w.grownBy w' (some rb))(hne:∀ b off,a=some ⟨b,off,none⟩->b≠rb):zaf w' a cs:=by
 rcases h with h|⟨b,off,rfl,hbl,hc⟩
 ·exact Or.inl h
 ·refine Or.inr ⟨b,off,rfl,nll hbl hg.size,fun i hi=>?_⟩
  have:=hne b off rfl
  exact⟨zaC hg this (hc i hi).1,zaC hg this (hc i hi).2⟩
theorem zpx(wd:Int)(cs:List (Int × Int))(h:okG wd cs=true):1<=wd/\wd<=5/\1<=cs.length/\cs.length<=25:=by
 simp only[okG,zb0,Bool.and_eq_true,decide_eq_true_eq] at h
 obtain⟨⟨h1,h2,h3,h4,h5⟩,_⟩:=h
 have hd:=Int.emod_add_mul_ediv (cs.length:Int) wd
 rw[h3] at hd
 rcases (show wd=1\/wd=2\/wd=3\/wd=4\/wd=5 by omega) with rfl|rfl|rfl|rfl|rfl <;> omega
def zsy:Option Value->Nat|some (.slice _ n _)=>n|_=>0
theorem newAt{g:Nat}(h:B<=g):∀ b o,(some (⟨g,off,none⟩:Addr))=some ⟨b,o,none⟩->B<=b:=by
 intro b o e
 simp only[Option.some.injEq,Addr.mk.injEq,and_true] at e
 omega
theorem zjD{g cap:Nat}(h:Own w B (.slice (some ⟨g,0,none⟩) n cap) cs):n<=cap/\cap<=maxLen:=by
 rcases h.2 with ⟨h0,_⟩|⟨g',cap',cur,hv,hB,hg,h1,h2,_⟩
 ·simp at h0
 ·simp only[Value.slice.injEq] at hv
  obtain⟨_,rfl,rfl⟩:=hv
  exact⟨h1,h2⟩
theorem zmd{g:Nat}(h:zaf w (some ⟨g,off,none⟩) cs):zaf w (some ⟨g,off+2,none⟩) cs.tail:=by
 rcases h with h|⟨b,off',e,hbl,hc⟩
 ·subst h;exact Or.inl rfl
 ·simp only[Option.some.injEq,Addr.mk.injEq,and_true] at e
  obtain⟨rfl,rfl⟩:=e
  refine Or.inr ⟨g,off+2,rfl,hbl,fun i hi=>?_⟩
  have:=hc (i+1) (by rw[List.length_tail] at hi;omega)
  rw[show off+2+i * 2=off+(i+1) * 2 by omega]
  simpa [List.getD] using this
theorem zdk{g cap:Nat}(h:Own w B (.slice (some ⟨g,0,none⟩) cs.length cap) cs):zaf w (some ⟨g,0,none⟩) cs:=by
 obtain⟨a,c,e,hC⟩:=h.slice
 simp only[Value.slice.injEq] at e
 rw[e.1]
 exact hC
def UnF(w:World)(a:Option Addr)(xs:List (Int × Int)):Prop:=∀ b off,a=some ⟨b,off,none⟩->∀ i,i<xs.length->w.frozen? ⟨b,off+i * 2,none⟩=false/\w.frozen? ⟨b,off+i * 2+1,none⟩=false
theorem UnF.set(h:UnF w a xs){u:Value}:UnF (w.setCell p u) a xs:=by
 intro b off e i hi
 obtain⟨h1,h2⟩:=h b off e i hi
 rw[World.frozen?_setCell,World.frozen?_setCell]
 exact⟨h1,h2⟩
theorem UnF.below(h:UnF w a xs)(hC:zaf w a xs)(hb:Below w.heap.size w w'):UnF w' a xs:=by
 intro b off e i hi
 obtain⟨h1,h2⟩:=h b off e i hi
 rcases hC with q|⟨b',off',e',hbl,hc⟩
 ·rw[q] at hi;simp at hi
 ·rw[e] at e'
  simp only[Option.some.injEq,Addr.mk.injEq,and_true] at e'
  obtain⟨rfl,rfl⟩:=e'
  exact⟨zal hb (hc i hi).1 h1,zal hb (hc i hi).2 h2⟩
theorem UnF.grown(h:UnF w a xs)(hC:zaf w a xs)(hg:w.grownBy w' (some rb))(hne:∀ b off,a=some ⟨b,off,none⟩->b≠rb):UnF w' a xs:=by
 intro b off e i hi
 obtain⟨h1,h2⟩:=h b off e i hi
 have hn:=hne b off e
 rcases hC with q|⟨b',off',e',hbl,hc⟩
 ·rw[q] at hi;simp at hi
 ·rw[e] at e'
  simp only[Option.some.injEq,Addr.mk.injEq,and_true] at e'
  obtain⟨rfl,rfl⟩:=e'
  exact⟨zbx hg hn (hc i hi).1 h1,zbx hg hn (hc i hi).2 h2⟩
theorem znC{g cap:Nat}(h:Own w B (.slice (some ⟨g,0,none⟩) cs.length cap) cs):UnF w (some ⟨g,0,none⟩) cs:=by
 intro b off e i hi
 simp only[Option.some.injEq,Addr.mk.injEq,and_true] at e
 obtain⟨rfl,rfl⟩:=e
 obtain⟨_,_,f1,f2⟩:=h.cell rfl i hi
 simp only[Nat.zero_add]
 exact⟨f1,f2⟩
theorem zp6{g:Nat}(h:UnF w (some ⟨g,off,none⟩) cs):UnF w (some ⟨g,off+2,none⟩) cs.tail:=by
 intro b o e i hi
 simp only[Option.some.injEq,Addr.mk.injEq,and_true] at e
 obtain⟨rfl,rfl⟩:=e
 have:=h g off rfl (i+1) (by rw[List.length_tail] at hi;omega)
 rw[show off+2+i * 2=off+(i+1) * 2 by omega]
 exact this
structure zmu(w0 w':World)(a:Option Addr)(c:Nat)(xs:List (Int × Int)):Prop where
 cells:zaf w' a xs
 new:∀ b off,a=some ⟨b,off,none⟩->w0.heap.size<=b
 unf:UnF w' a xs
 cap:xs.length<=c
 max:c<=9223372036854775807
theorem zdn{w0:World}{g cap:Nat}(h:Own w' B (.slice (some ⟨g,0,none⟩) cs.length cap) cs)(hg:w0.heap.size<=g):zmu w0 w' (some ⟨g,0,none⟩) cap cs :=
 ⟨zdk h,newAt hg,znC h,(zjD h).1,by have:=(zjD h).2;unfold maxLen at this;omega⟩
theorem zii(w:World)(rb L P:Nat)(h:RdQ w rb L P)(hp:P<=800000)(hL:L<=w.heap.size) :
  Calls SqP.prog 33 #[.pointer (some ⟨rb,0,none⟩)] w fun e w'=>∃ (wd:Int) (a:Option Addr) (c:Nat) (xs:List (Int × Int)),e=.returned (.agg #[.int .i64 wd,.slice a xs.length c])/\zmu w w' a c xs/\xs.length<=31/\RdQ w' rb L (P+70)/\w.grownBy w' (some rb):=by
 obtain⟨i0,hi,iz0,iz1,iz2⟩:=info_parts (ze3 (aLt:=Sq.altP))
 have hrb:=h.lt
 have hbX:Below w.heap.size w (w.alloc (.cells #[.int .i64 0,.slice none 0 0] 25)):=bel
 have hX:=h.below (hbX.mono hL)
 go_enter (zfx func33),ntmps33
 go_wp2_with fail
 refine(zjq _ rb L P hX qg ql).mono ?_
 rintro e w1 ⟨W,g,c,xs,rfl,hok,hO1,hr1,hg1'⟩
 have hne:w.heap.size≠rb:=qg
 have hz1:=hg1'.size
 simp at hz1
 have hxl:xs.length<=25/\1<=xs.length/\1<=W/\W<=5:=by have:=zpx _ _ hok;omega
 have q0:w1.cell? ⟨w.heap.size,0,none⟩=some (.int .i64 0):=zaC hg1' hne qj
 have q1:w1.cell? ⟨w.heap.size,1,none⟩=some (.slice none 0 0):=zaC hg1' hne qj
 have f0:w1.frozen? ⟨w.heap.size,0,none⟩=false:=zbx hg1' hne (v:=.int .i64 0) qj qj
 have f1:w1.frozen? ⟨w.heap.size,1,none⟩=false:=zbx hg1' hne (v:=.slice none 0 0) qj qj
 have hg1:w.grownBy w1 (some rb):=zcX (zck hbX) hg1'
 have hbY:Below w1.heap.size w1 (w1.alloc (.cells #[.int .i64 (W:Int),.slice (some ⟨g,0,none⟩) xs.length c] 25)):=bel
 have hI1:zaQ w (w1.alloc (.cells #[.int .i64 (W:Int),.slice (some ⟨g,0,none⟩) xs.length c] 25)) rb L (P+60) w1.heap.size (W:Int) (.slice (some ⟨g,0,none⟩) xs.length c) :=
  ⟨zeK hg1 hbY,hr1.below (hbY.mono qg),zad hbY q0,zad hbY q1,zal hbY q0 f0,zal hbY q1 f1,qj,qj,qj,qj,qg⟩
 have hgr:=hO1.lt
 simp at hgr
 have hO:=hO1.below hbY
 clear hX hbX hg1' hr1 q0 q1 f0 f1 hg1 hbY hO1
 go_wp2_with fail
 refine(zbz 24 _ rb L (P+60) hI1.rd qg qg).mono ?_
 rintro e w2 ⟨u,rfl,hu1,hu2,hr2,hg2⟩
 have hI2:=hI1.call hg2 hr2
 have hO2:Own w2 (w.heap.size+1) (.slice (some ⟨g,0,none⟩) xs.length c) xs:=World.ownsRow.kept (hO.mono qk) hg2 (Or.inr (by simp[Value.ownBlock];omega))
 clear hI1 hO hg2 hr2
 by_cases hu:0<u
 ·obtain⟨p4,p5,f4,f5,o0,o1⟩:=And.intro hI2.p4 (And.intro hI2.p5 (And.intro hI2.f4 (And.intro hI2.f5 (And.intro hI2.o0 hI2.o1))))
  go_wp2
  refine bodyPost_ret (v:=.agg #[.int .i64 (W:Int),.slice (some ⟨g,0,none⟩) xs.length c]) (by simp[results,results33,go_sem,p4,p5]) rfl ⟨(W:Int),some ⟨g,0,none⟩,c,xs,rfl,?_,qg,?_⟩
  ·exact zdn (zbg (zbg hO2 (p:=⟨w.heap.size,0,none⟩) (by show g≠w.heap.size;omega) _) (p:=⟨w.heap.size,1,none⟩) (by show g≠w.heap.size;omega) _) qg
  ·exact⟨(hI2.out _ _).1.more qg,(hI2.out _ _).2⟩
 have hu0:u=0:=qg
 subst hu0
 go_wp2_with fail
 refine(zbz 5 _ rb L (P+61) hI2.rd qg qg).mono ?_
 rintro e w3 ⟨v,rfl,hv1,hv2,hr3,hg3⟩
 have hI3:=hI2.call hg3 hr3
 have hO3:Own w3 (w.heap.size+1) (.slice (some ⟨g,0,none⟩) xs.length c) xs:=World.ownsRow.kept hO2 hg3 (Or.inr (by simp[Value.ownBlock];omega))
 have hz3:=hI3.g.size
 have so3:=World.block_lt_of_cell? _ _ hI3.o1
 simp only at so3
 clear hI2 hO2 hg3 hr3
 rcases (show v=0\/v=1\/v=2\/v=3\/v=4 by omega) with rfl|rfl|rfl|rfl|rfl
 ·have hbZ:Below w3.heap.size w3 (w3.alloc (.cells #[.int .i64 0,.int .i64 (-1),.int .i64 6] 3)):=bel
  have hI4:=hI3.below hbZ
  have hO4:=hO3.below hbZ
  go_wp2_with fail
  refine(zbz 3 _ rb L (P+62) hI4.rd qg qg).mono ?_
  rintro e w5 ⟨u,rfl,hu1',hu2',hr5,hg5⟩
  have hI5:=hI4.call hg5 hr5
  have hO5:Own w5 (w.heap.size+1) (.slice (some ⟨g,0,none⟩) xs.length c) xs:=World.ownsRow.kept hO4 hg5 (Or.inr (by simp[Value.ownBlock];omega))
  have nz:w3.heap.size≠rb:=qg
  have z0:w5.cell? ⟨w3.heap.size,0,none⟩=some (.int .i64 0):=zaC hg5 nz qj
  have z1:w5.cell? ⟨w3.heap.size,1,none⟩=some (.int .i64 (-1)):=zaC hg5 nz qj
  have z2:w5.cell? ⟨w3.heap.size,2,none⟩=some (.int .i64 6):=zaC hg5 nz qj
  obtain⟨p4,p5,f4,f5,o0,o1,fo0⟩:=And.intro hI5.p4 (And.intro hI5.p5 (And.intro hI5.f4 (And.intro hI5.f5 (And.intro hI5.o0 (And.intro hI5.o1 hI5.fo0)))))
  have n1:w.heap.size≠w1.heap.size:=qg
  have FIN:Hid (∀ x:Int,zmu w (((w5.setCell ⟨w1.heap.size,0,none⟩ (.int .i64 x)).setCell ⟨w.heap.size,0,none⟩ (.int .i64 x)).setCell ⟨w.heap.size,1,none⟩ (.slice (some ⟨g,0,none⟩) xs.length c)) (some ⟨g,0,none⟩) c xs/\xs.length<=31/\RdQ (((w5.setCell ⟨w1.heap.size,0,none⟩ (.int .i64 x)).setCell ⟨w.heap.size,0,none⟩ (.int .i64 x)).setCell ⟨w.heap.size,1,none⟩ (.slice (some ⟨g,0,none⟩) xs.length c)) rb L (P+70)/\w.grownBy (((w5.setCell ⟨w1.heap.size,0,none⟩ (.int .i64 x)).setCell ⟨w.heap.size,0,none⟩ (.int .i64 x)).setCell ⟨w.heap.size,1,none⟩ (.slice (some ⟨g,0,none⟩) xs.length c)) (some rb)):=fun x =>
   ⟨zdn (zbg (zbg (zbg hO5 (p:=⟨w1.heap.size,0,none⟩) (by show g≠w1.heap.size;omega) _) (p:=⟨w.heap.size,0,none⟩) (by show g≠w.heap.size;omega) _) (p:=⟨w.heap.size,1,none⟩) (by show g≠w.heap.size;omega) _) qg,qg,((hI5.set0 x).out _ _).1.more qg,((hI5.set0 x).out _ _).2⟩
  clear hI3 hI4 hO3 hO4 hbZ hg5 hr5 hI5 hO5
  rcases (show u=0\/u=1\/u=2 by omega) with rfl|rfl|rfl
  ·go_wp2
   exact bodyPost_ret (v:=.agg #[.int .i64 0,.slice (some ⟨g,0,none⟩) xs.length c]) (by simp[results,results33,go_sem,p4,p5]) rfl ⟨0,some ⟨g,0,none⟩,c,xs,rfl,FIN.out 0⟩
  ·go_wp2
   exact bodyPost_ret (v:=.agg #[.int .i64 (-1),.slice (some ⟨g,0,none⟩) xs.length c]) (by simp[results,results33,go_sem,p4,p5]) rfl ⟨-1,some ⟨g,0,none⟩,c,xs,rfl,FIN.out (-1)⟩
  ·go_wp2
   exact bodyPost_ret (v:=.agg #[.int .i64 6,.slice (some ⟨g,0,none⟩) xs.length c]) (by simp[results,results33,go_sem,p4,p5]) rfl ⟨6,some ⟨g,0,none⟩,c,xs,rfl,FIN.out 6⟩
 ·obtain⟨p4,p5,f4,f5,o0,o1,fo1⟩:=And.intro hI3.p4 (And.intro hI3.p5 (And.intro hI3.f4 (And.intro hI3.f5 (And.intro hI3.o0 (And.intro hI3.o1 hI3.fo1)))))
  have n1:w.heap.size≠w1.heap.size:=qg
  have hcap:=zjD hO3
  have i1:(1:Int)<=(xs.length:Int):=qg
  have i2:(xs.length:Int)<=(c:Int):=qg
  have i3:(c:Int)<=9223372036854775807:=by have:=hcap.2;unfold maxLen at this;omega
  have hT:=zmd (zdk hO3)
  have ng:∀ b off,some (⟨g,0+2,none⟩:Addr)=some ⟨b,off,none⟩->b≠w1.heap.size/\b≠w.heap.size:=by
   intro b off e
   simp only[Option.some.injEq,Addr.mk.injEq,and_true] at e
   omega
  by_cases hc1:c=1
  ·subst hc1
   have hI4:=hI3.set1 (.slice (some ⟨g,0,none⟩) 0 0)
   have ht:xs.length - 1=0:=qg
   go_wp2
   refine bodyPost_ret (v:=.agg #[.int .i64 (W:Int),.slice (some ⟨g,0,none⟩) 0 0]) (by simp[results,results33,go_sem,p4,p5]) rfl ⟨(W:Int),some ⟨g,0,none⟩,0,[],rfl,⟨Or.inl rfl,newAt qg,fun b off e i hi=>by simp at hi,qk,qg⟩,qk,?_⟩
   exact⟨(hI4.out _ _).1.more qg,(hI4.out _ _).2⟩
  ·have hI4:=hI3.set1 (.slice (some ⟨g,2,none⟩) (xs.length - 1) (c - 1))
   have i4:(2:Int)<=(c:Int):=qg
   go_wp2
   refine bodyPost_ret (v:=.agg #[.int .i64 (W:Int),.slice (some ⟨g,2,none⟩) (xs.length - 1) (c - 1)]) (by simp[results,results33,go_sem,p4,p5]) rfl ⟨(W:Int),some ⟨g,2,none⟩,c - 1,xs.tail,by rw[List.length_tail],?_,by rw[List.length_tail];omega,?_⟩
   ·exact⟨((hT.set (bb:=w1.heap.size) (fun b off e=>(ng b off e).1) _).set (bb:=w.heap.size) (fun b off e=>(ng b off e).2) _).set (bb:=w.heap.size) (fun b off e=>(ng b off e).2) _,newAt qg,((((zp6 (znC hO3)).set).set).set),by rw[List.length_tail];omega,qg⟩
   ·exact⟨(hI4.out _ _).1.more qg,(hI4.out _ _).2⟩
 ·obtain⟨p4,p5,f4,f5,o0,o1,fo1⟩:=And.intro hI3.p4 (And.intro hI3.p5 (And.intro hI3.f4 (And.intro hI3.f5 (And.intro hI3.o0 (And.intro hI3.o1 hI3.fo1)))))
  have n1:w.heap.size≠w1.heap.size:=qg
  have i1:(1:Int)<=(xs.length:Int):=qg
  go_wp2
  go_region_held3 (fun w'=>w'.cell? ⟨w1.heap.size,1,none⟩=some (.slice (some ⟨g,0,none⟩) xs.length c))
   (first|exact zev ngo (zev ngo hI6.o1)|exact hI6.o1|exact hI5.o1|go_keep)
   (first
    | (go_at_call 21;refine(zbz (xs.length:Int) _ rb L (P+62) (by first|exact hI3.rd|exact hI3.rd.below (Below.refl _ _).drew) qg qg).mono ?_;rintro e w5 ⟨u,rfl,hu1',hu2',hr5,hg5'⟩;have hg5:w3.grownBy w5 (some rb):=(by first|exact hg5'|exact zgo hg5');have hI5:=hI3.call hg5 hr5;obtain⟨U,rfl⟩:=Int.eq_ofNat_of_zero_le hu1')
    | (go_at_call 55;refine(zlr _ rb L (P+63) hI5.rd qg (by have:=hI5.g.size;omega)).mono ?_;rintro e w6 ⟨kx,lx,rfl,hr6,hg6⟩;have hI6:=hI5.call hg6 hr6;have hO6:Own w6 (w.heap.size+1) (.slice (some ⟨g,0,none⟩) xs.length c) xs:=World.ownsRow.kept (World.ownsRow.kept hO3 hg5 (Or.inr (by simp[Value.ownBlock];omega))) hg6 (Or.inr (by simp[Value.ownBlock];omega));have hU:U<xs.length:=qg;obtain⟨c1,c2,g1,g2⟩:=hO6.cell rfl U hU;have ngo:w1.heap.size≠g:=qg))
  all_goals
   have HS:=hO6.set rfl U kx lx hU
   have hI7:=(hI6.setG (g:=g) (j:=U * 2) qg qg (.int .i64 kx)).setG (g:=g) (j:=U * 2+1) qg qg (.int .i64 lx)
   have hl:(xs.set U (kx,lx)).length=xs.length:=qk
   obtain⟨p4,p5,f4,f5,o0,o1⟩:=And.intro hI7.p4 (And.intro hI7.p5 (And.intro hI7.f4 (And.intro hI7.f5 (And.intro hI7.o0 hI7.o1))))
   go_wp2
   refine bodyPost_ret (v:=.agg #[.int .i64 (W:Int),.slice (some ⟨g,0,none⟩) xs.length c]) (by simp[results,results33,go_sem,p4,p5]) rfl ⟨(W:Int),some ⟨g,0,none⟩,c,xs.set U (kx,lx),by rw[hl],?_,by rw[hl];omega,?_⟩
   ·rw[<- hl] at HS
    have:=zbg (zbg HS (p:=⟨w.heap.size,0,none⟩) (by show g≠w.heap.size;omega) (.int .i64 (W:Int))) (p:=⟨w.heap.size,1,none⟩) (by show g≠w.heap.size;omega) (.slice (some ⟨g,0,none⟩) xs.length c)
    exact zdn this qg
   ·exact⟨(hI7.out _ _).1.more (P':=P+70) qg,(hI7.out _ _).2⟩
 ·clear hv1 hv2
  have hW5:(W:Int) * 5<=25:=qg
  go_wp2
  go_loopw [] (fun wr=>∃ (ys:List (Int × Int)) (g c:Nat),ys.length<=26/\1<=ys.length/\zaQ w wr rb L (P+62) w1.heap.size (W:Int) (.slice (some ⟨g,0,none⟩) ys.length c)/\Own wr (w.heap.size+1) (.slice (some ⟨g,0,none⟩) ys.length c) ys/\g≠w1.heap.size) (fun wr=>30 - zsy (wr.cell? ⟨w1.heap.size,1,none⟩))
  case atStart=>exact⟨xs,g,c,qg,qg,hI3,hO3,qg⟩
  case round =>
   clear hI3 hO3
   obtain⟨ys,g,c,hy1,hy2,hI,hO,hgo⟩:=hrel
   have hLL:=hI.hL
   have hgl:=hO.lt
   have so:=World.block_lt_of_cell? _ _ hI.o1
   simp only at so
   obtain⟨p4,p5,f4,f5,o0,o1,fo1⟩:=And.intro hI.p4 (And.intro hI.p5 (And.intro hI.f4 (And.intro hI.f5 (And.intro hI.o0 (And.intro hI.o1 hI.fo1)))))
   by_cases hlt:(ys.length:Int)<=(W:Int) * 5
   ·go_wp2_with (at_builtin;refine wpList_append_lies _ rfl _ _ _ rfl (w.heap.size+1) 60 i0 (.agg #[.int .i64 0,.int .i64 0]) 2 16 SqP.underlying23 hi iz0 iz1 iz2 rfl qg (.slice (some ⟨g,0,none⟩) ys.length c) ys.length (flat ys) rfl (hO.alloc _) ⟨wr.heap.size,0,none⟩ 1 1 [.int .i64 0,.int .i64 0] rfl rfl (World.news_of_block (cs:=#[.int .i64 0,.int .i64 0]) (t:=60) (fr:=(0,0)) (heap_alloc_new wr _)) qm qg qp qg ql (wr.heap.size+1) qk ?_)
    intro g6 k6 w6 hO6 hg6 hat6 hlt6
    have hI6:=hI.far (g:=g) hg6 qg hgo
    have hgn:g6≠w1.heap.size:=by
     rcases hat6 with e|e
     ·simp only[Value.ownBlock,Option.some.injEq] at e;omega
     ·omega
    have hI7:=hI6.set1 (.slice (some ⟨g6,0,none⟩) (ys.length+1) k6)
    have o6:=hI6.o1
    have fo6:=hI6.fo1
    have hl:(ys++[((0:Int),(0:Int))]).length=ys.length+1:=qk
    have hO7:Own (w6.setCell ⟨w1.heap.size,1,none⟩ (.slice (some ⟨g6,0,none⟩) (ys.length+1) k6)) (w.heap.size+1) (.slice (some ⟨g6,0,none⟩) (ys.length+1) k6) (ys++[(0,0)]):=by
     refine zbg ?_ hgn _
     unfold Own
     rw[hl,zfn]
     exact hO6
    clear hI hO hg6 hO6 p4 p5 f4 f5 hI6
    go_wp2
    go_roundw
    case rel=>exact⟨ys++[(0,0)],g6,k6,by rw[hl];omega,by rw[hl];omega,by rw[hl];exact hI7,by rw[hl];exact hO7,hgn⟩
    case measure =>
     rw[World.cell?_setCell_same _ _ _ o6,o1]
     simp only[zsy]
     omega
   ·have hT:=zdk hO
    go_wp2
    refine bodyPost_ret (v:=.agg #[.int .i64 (W:Int),.slice (some ⟨g,0,none⟩) ys.length c]) (by simp[results,results33,go_sem,p4,p5]) rfl ⟨(W:Int),some ⟨g,0,none⟩,c,ys,rfl,?_,qg,?_⟩
    ·exact zdn (zbg (zbg hO (p:=⟨w.heap.size,0,none⟩) (by show g≠w.heap.size;omega) _) (p:=⟨w.heap.size,1,none⟩) (by show g≠w.heap.size;omega) _) qg
    ·exact⟨(hI.out _ _).1.more (P':=P+70) qg,(hI.out _ _).2⟩
 ·obtain⟨p4,p5,f4,f5,o0,o1,fo1⟩:=And.intro hI3.p4 (And.intro hI3.p5 (And.intro hI3.f4 (And.intro hI3.f5 (And.intro hI3.o0 (And.intro hI3.o1 hI3.fo1)))))
  have n1:w.heap.size≠w1.heap.size:=qg
  have hI4:=hI3.set1 (.slice none 0 0)
  go_wp2
  refine bodyPost_ret (v:=.agg #[.int .i64 (W:Int),.slice none 0 0]) (by simp[results,results33,go_sem,p4,p5]) rfl ⟨(W:Int),none,0,[],rfl,⟨Or.inl rfl,fun _ _ e=>(by cases e),fun _ _ e=>(by cases e),qk,qg⟩,qk,?_⟩
  exact⟨(hI4.out _ _).1.more qg,(hI4.out _ _).2⟩
