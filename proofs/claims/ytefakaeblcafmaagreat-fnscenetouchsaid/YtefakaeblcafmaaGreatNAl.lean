/- Part. -/
import Derived.LoopN
import Derived.Test.YtefakaeblcafmaaGreatNAk
set_option maxHeartbeats 4000000
set_option maxRecDepth 100000
set_option linter.unusedVariables false
namespace Go.Proofs.YtefakaeblcafmaaGreat
variable{wd:Int}{cs:List (Int × Int)}{H W:Nat}
open Tryz
namespace Sp
variable{aLt:Nat->Func->Func}
open Go.RowKit
theorem zhg(W H n:Int)(w:World):Sem.run (SqG.prog aLt) (Instr.index 120 (.agg (zbJ W H n)) (.int .i64 0)) w=.ok (.agg #[.int .i64 (0),.int .i64 (W),.int .i64 (0),.int .i64 (1),.int .i64 (2),.int .i64 (0)]) w:=qh
theorem zhh(W H n:Int)(w:World):Sem.run (SqG.prog aLt) (Instr.index 120 (.agg (zbJ W H n)) (.int .i64 1)) w=.ok (.agg #[.int .i64 (W),.int .i64 (H),.int .i64 (W - 1),.int .i64 (W),.int .i64 (3),.int .i64 (1)]) w:=qh
theorem zhi(W H n:Int)(w:World):Sem.run (SqG.prog aLt) (Instr.index 120 (.agg (zbJ W H n)) (.int .i64 2)) w=.ok (.agg #[.int .i64 (W+H),.int .i64 (W),.int .i64 (n - 1),.int .i64 (-1),.int .i64 (0),.int .i64 (2)]) w:=qh
theorem zhj(W H n:Int)(w:World):Sem.run (SqG.prog aLt) (Instr.index 120 (.agg (zbJ W H n)) (.int .i64 3)) w=.ok (.agg #[.int .i64 (W+H+W),.int .i64 (H),.int .i64 (n - 1 - W+1),.int .i64 (-W),.int .i64 (1),.int .i64 (3)]) w:=qh
theorem zm5(W H:Nat)(a:Option Addr)(cap:Nat)(cs:List (Int × Int))(w:World)(h:zaf w a cs)(hok:okG (W:Int) cs=true)(hW:1<=W/\W<=5)(hH5:1<=H/\H<=5)(hn:cs.length<=25)(hH:cs.length / W=H) :
  Calls (SqG.prog aLt) 80 #[.agg #[.int .i64 (W:Int),.slice a cs.length cap],.int .i64 0,.func (.func 87) #[] #[]] w fun e w'=>e=.returned (.int .i64 ((W:Int)+(H:Int)+(W:Int)+(H:Int)))/\Below w.heap.size w w':=by
 have HH:Hid (cs.length / W=H):=hH
 have hWa:=hW.1
 have hWb:=hW.2
 have hHa:=hH5.1
 have hHb:=hH5.2
 clear hH
 go_enter (zfx func80),ntmps80
 go_wp2_with fail
 refine(zav _ _ _ cs _ (h.below bel) qg).mono ?_
 rintro e x0 ⟨rfl,hb0⟩
 have g0:x0.cell? ⟨w.heap.size,0,none⟩=some (.int .i64 (W:Int)):=zad hb0 qj
 have g1:x0.cell? ⟨w.heap.size,1,none⟩=some (.slice a cs.length cap):=zad hb0 qj
 have hz0:=hb0.size
 simp at hz0
 have hB0:Below w.heap.size w x0:=zai bel qk hb0
 clear hb0
 go_wp2_with fail
 refine(zbX W H a cs.length cap _ hW hH5 hn HH.out).mono ?_
 rintro e x1 ⟨rfl,hb1⟩
 have hz1:=hb1.size
 have hB1:Below w.heap.size w x1:=zai hB0 qg hb1
 clear hb1 g0 g1 HH hok h hW hH5
 have i0:=zhg (aLt:=aLt) (W:Int) (H:Int) (cs.length:Int)
 have i1:=zhh (aLt:=aLt) (W:Int) (H:Int) (cs.length:Int)
 have i2:=zhi (aLt:=aLt) (W:Int) (H:Int) (cs.length:Int)
 have i3:=zhj (aLt:=aLt) (W:Int) (H:Int) (cs.length:Int)
 go_wp2_with fail
 refine wp_loop_rounds 5 ?_
 rw[rounds_succ]
 go_wp2_with fail
 refine(zb9 _ _ _ _ _ _ _ qg qg _).mono ?_
 rintro e x2 ⟨rfl,hc2⟩
 have hz2:=hc2.size
 simp at hz2
 have hB2:Below w.heap.size w x2:=zai (hB1.alloc qg _) ql hc2
 clear hc2
 go_wp2_with fail
 rw[rounds_succ]
 go_wp2_with fail
 refine(zb9 _ _ _ _ _ _ _ qg qg _).mono ?_
 rintro e x3 ⟨rfl,hc3⟩
 have hz3:=hc3.size
 simp at hz3
 have hB3:Below w.heap.size w x3:=zai (hB2.alloc qg _) ql hc3
 clear hc3
 go_wp2_with fail
 rw[rounds_succ]
 go_wp2_with fail
 refine(zb9 _ _ _ _ _ _ _ qg qg _).mono ?_
 rintro e x4 ⟨rfl,hc4⟩
 have hz4:=hc4.size
 simp at hz4
 have hB4:Below w.heap.size w x4:=zai (hB3.alloc qg _) ql hc4
 clear hc4
 go_wp2_with fail
 rw[rounds_succ]
 go_wp2_with fail
 refine(zb9 _ _ _ _ _ _ _ qg qg _).mono ?_
 rintro e x5 ⟨rfl,hc5⟩
 have hz5:=hc5.size
 simp at hz5
 have hB5:Below w.heap.size w x5:=zai (hB4.alloc qg _) ql hc5
 clear hc5
 go_wp2_with fail
 rw[rounds_succ]
 go_wp2_with fail
 go_ret
 exact⟨rfl,hB5⟩
theorem zdo(q f:Int)(m:Nat)(s o i u x d:Int)(bd bx:Nat)(w:World)(hf:0<=f/\f<=50)(hm:m<=5)(hs:-50<=s/\s<=50)(ho:-5<=o/\o<=5)(hd:w.cell? ⟨bd,0,none⟩=some (.int .i64 d))(hx:w.cell? ⟨bx,0,none⟩=some (.int .i64 x))(v:Int)(hv:v=if u=d then sa f s o x m else q) :
  Calls (SqG.prog aLt) 81 #[.int .i64 q,.agg #[.int .i64 f,.int .i64 (m:Int),.int .i64 s,.int .i64 o,.int .i64 i,.int .i64 u],.pointer (some ⟨bd,0,none⟩),.pointer (some ⟨bx,0,none⟩)] w fun e w'=>e=.returned (.int .i64 v)/\Below w.heap.size w w':=by
 obtain⟨F,rfl⟩:=Int.eq_ofNat_of_zero_le hf.1
 exact zmg q F m s o i u x d bd bx w qg hm hs ho hd hx v hv
def of0(W:Nat)(x d:Int):Int:=if 0=d then sa 0 0 1 x W else -1
def of1(W H:Nat)(x d:Int):Int:=if 1=d then sa (W:Int) ((W:Int) - 1) (W:Int) x H else of0 W x d
def of2(W H n:Nat)(x d:Int):Int:=if 2=d then sa ((W:Int)+(H:Int)) ((n:Int) - 1) (-1) x W else of1 W H x d
def of3(W H n:Nat)(x d:Int):Int:=if 3=d then sa ((W:Int)+(H:Int)+(W:Int)) ((n:Int) - 1 - (W:Int)+1) (-(W:Int)) x H else of2 W H n x d
theorem zq2(W H:Nat)(a:Option Addr)(cap:Nat)(cs:List (Int × Int))(w:World)(h:zaf w a cs)(hok:okG (W:Int) cs=true)(hW:1<=W/\W<=5)(hH5:1<=H/\H<=5)(hn:cs.length<=25)(hH:cs.length / W=H)(x d:Int)(bd bx:Nat)(hd:w.cell? ⟨bd,0,none⟩=some (.int .i64 d))(hx:w.cell? ⟨bx,0,none⟩=some (.int .i64 x)) :
  Calls (SqG.prog aLt) 80 #[.agg #[.int .i64 (W:Int),.slice a cs.length cap],.int .i64 (-1),.func (.func 81) #[] #[.pointer (some ⟨bd,0,none⟩),.pointer (some ⟨bx,0,none⟩)]] w fun e w'=>e=.returned (.int .i64 (of3 W H cs.length x d))/\Below w.heap.size w w':=by
 have HH:Hid (cs.length / W=H):=hH
 have hWa:=hW.1
 have hWb:=hW.2
 have hHa:=hH5.1
 have hHb:=hH5.2
 have hn0:0<=(cs.length:Int):=qg
 have hnb:(cs.length:Int)<=25:=qg
 clear hH
 obtain⟨v0,ev0⟩:∃ v,v=of0 W x d:=⟨_,rfl⟩
 obtain⟨v1,ev1⟩:∃ v,v=of1 W H x d:=⟨_,rfl⟩
 obtain⟨v2,ev2⟩:∃ v,v=of2 W H cs.length x d:=⟨_,rfl⟩
 obtain⟨v3,ev3⟩:∃ v,v=of3 W H cs.length x d:=⟨_,rfl⟩
 rw[<- ev3]
 have EV0:Hid (v0=if 0=d then sa 0 0 1 x W else -1):=ev0
 have EV1:Hid (v1=if 1=d then sa (W:Int) ((W:Int) - 1) (W:Int) x H else v0):=by show _=_;rw[ev0];exact ev1
 have EV2:Hid (v2=if 2=d then sa ((W:Int)+(H:Int)) ((cs.length:Int) - 1) (-1) x W else v1):=by show _=_;rw[ev1];exact ev2
 have EV3:Hid (v3=if 3=d then sa ((W:Int)+(H:Int)+(W:Int)) ((cs.length:Int) - 1 - (W:Int)+1) (-(W:Int)) x H else v2):=by show _=_;rw[ev2];exact ev3
 clear ev0 ev1 ev2 ev3
 go_enter (zfx func80),ntmps80
 go_wp2_with fail
 refine(zav _ _ _ cs _ (h.below bel) qg).mono ?_
 rintro e x0 ⟨rfl,hb0⟩
 have g0:x0.cell? ⟨w.heap.size,0,none⟩=some (.int .i64 (W:Int)):=zad hb0 qj
 have g1:x0.cell? ⟨w.heap.size,1,none⟩=some (.slice a cs.length cap):=zad hb0 qj
 have hz0:=hb0.size
 simp at hz0
 have hB0:Below w.heap.size w x0:=zai bel qk hb0
 clear hb0
 go_wp2_with fail
 refine(zbX W H a cs.length cap _ hW hH5 hn HH.out).mono ?_
 rintro e x1 ⟨rfl,hb1⟩
 have hz1:=hb1.size
 have hB1:Below w.heap.size w x1:=zai hB0 qg hb1
 clear hb1 g0 g1 HH hok h hW hH5
 have i0:=zhg (aLt:=aLt) (W:Int) (H:Int) (cs.length:Int)
 have i1:=zhh (aLt:=aLt) (W:Int) (H:Int) (cs.length:Int)
 have i2:=zhi (aLt:=aLt) (W:Int) (H:Int) (cs.length:Int)
 have i3:=zhj (aLt:=aLt) (W:Int) (H:Int) (cs.length:Int)
 go_wp2_with fail
 refine wp_loop_rounds 5 ?_
 rw[rounds_succ]
 go_wp2_with fail
 refine(zdo _ _ W _ _ _ _ x d bd bx _ qg qg qg qg ((hB1.alloc qg _).cell (World.block_lt_of_cell? w _ hd) |>.trans hd) ((hB1.alloc qg _).cell (World.block_lt_of_cell? w _ hx) |>.trans hx) _ EV0.out).mono ?_
 rintro e x2 ⟨rfl,hc2⟩
 have hz2:=hc2.size
 simp at hz2
 have hB2:Below w.heap.size w x2:=zai (hB1.alloc qg _) ql hc2
 clear hc2
 go_wp2_with fail
 rw[rounds_succ]
 go_wp2_with fail
 refine(zdo _ _ H _ _ _ _ x d bd bx _ qg qg qg qg ((hB2.alloc qg _).cell (World.block_lt_of_cell? w _ hd) |>.trans hd) ((hB2.alloc qg _).cell (World.block_lt_of_cell? w _ hx) |>.trans hx) _ EV1.out).mono ?_
 rintro e x3 ⟨rfl,hc3⟩
 have hz3:=hc3.size
 simp at hz3
 have hB3:Below w.heap.size w x3:=zai (hB2.alloc qg _) ql hc3
 clear hc3
 go_wp2_with fail
 rw[rounds_succ]
 go_wp2_with fail
 refine(zdo _ _ W _ _ _ _ x d bd bx _ qg qg qg qg ((hB3.alloc qg _).cell (World.block_lt_of_cell? w _ hd) |>.trans hd) ((hB3.alloc qg _).cell (World.block_lt_of_cell? w _ hx) |>.trans hx) _ EV2.out).mono ?_
 rintro e x4 ⟨rfl,hc4⟩
 have hz4:=hc4.size
 simp at hz4
 have hB4:Below w.heap.size w x4:=zai (hB3.alloc qg _) ql hc4
 clear hc4
 go_wp2_with fail
 rw[rounds_succ]
 go_wp2_with fail
 refine(zdo _ _ H _ _ _ _ x d bd bx _ qg qg qg qg ((hB4.alloc qg _).cell (World.block_lt_of_cell? w _ hd) |>.trans hd) ((hB4.alloc qg _).cell (World.block_lt_of_cell? w _ hx) |>.trans hx) _ EV3.out).mono ?_
 rintro e x5 ⟨rfl,hc5⟩
 have hz5:=hc5.size
 simp at hz5
 have hB5:Below w.heap.size w x5:=zai (hB4.alloc qg _) ql hc5
 clear hc5
 go_wp2_with fail
 rw[rounds_succ]
 go_wp2_with fail
 go_ret
 exact⟨rfl,hB5⟩
theorem zh3(wd:Int)(a:Option Addr)(cap:Nat)(cs:List (Int × Int))(w:World)(h:zaf w a cs)(hbad:okG wd cs=false)(hm:cs.length<=1048576)(q:Int)(t:Value) :
  Calls (SqG.prog aLt) 80 #[.agg #[.int .i64 wd,.slice a cs.length cap],.int .i64 q,t] w fun e w'=>e=.returned (.int .i64 q)/\Below w.heap.size w w':=by
 go_enter (zfx func80),ntmps80
 go_wp2_with fail
 refine(zav _ _ _ cs _ (h.below bel) qg).mono ?_
 rintro e x0 ⟨rfl,hb0⟩
 have hB0:Below w.heap.size w x0:=zai bel qk hb0
 clear hb0
 go_wp2_with fail
 go_ret
 exact⟨rfl,hB0⟩
theorem zcE(qx qd:Int)(qb:Bool)(f:Int)(m:Nat)(s o i u k:Int)(bk:Nat)(w:World)(hf:0<=f/\f<=50)(hm:m<=5)(hs:-50<=s/\s<=50)(ho:-5<=o/\o<=5)(hk:w.cell? ⟨bk,0,none⟩=some (.int .i64 k))(vx vd:Int)(vb:Bool)(hv:(vx,vd,vb)=if f<=k/\k<f+(m:Int) then (s+(k - f) * o,i,true) else (qx,qd,qb)) :
  Calls (SqG.prog aLt) 45 #[.agg #[.int .i64 qx,.int .i64 qd,.bool qb],.agg #[.int .i64 f,.int .i64 (m:Int),.int .i64 s,.int .i64 o,.int .i64 i,.int .i64 u],.pointer (some ⟨bk,0,none⟩)] w fun e w'=>e=.returned (.agg #[.int .i64 vx,.int .i64 vd,.bool vb])/\Below w.heap.size w w':=by
 obtain⟨F,rfl⟩:=Int.eq_ofNat_of_zero_le hf.1
 exact zjY qx qd qb F m s o i u k bk w qg hm hs ho hk vx vd vb hv
def in0(W:Nat)(k:Int):Int × Int × Bool:=if 0<=k/\k<0+(W:Int) then (0+(k - 0) * 1,2,true) else (0,0,false)
def in1(W H:Nat)(k:Int):Int × Int × Bool:=if (W:Int)<=k/\k<(W:Int)+(H:Int) then ((W:Int) - 1+(k - (W:Int)) * (W:Int),3,true) else in0 W k
def in2(W H n:Nat)(k:Int):Int × Int × Bool:=if (W:Int)+(H:Int)<=k/\k<(W:Int)+(H:Int)+(W:Int) then ((n:Int) - 1+(k - ((W:Int)+(H:Int))) * (-1),0,true) else in1 W H k
def in3(W H n:Nat)(k:Int):Int × Int × Bool:=if (W:Int)+(H:Int)+(W:Int)<=k/\k<(W:Int)+(H:Int)+(W:Int)+(H:Int) then ((n:Int) - 1 - (W:Int)+1+(k - ((W:Int)+(H:Int)+(W:Int))) * (-(W:Int)),1,true) else in2 W H n k
theorem zo9(W H:Nat)(a:Option Addr)(cap:Nat)(cs:List (Int × Int))(w:World)(h:zaf w a cs)(hok:okG (W:Int) cs=true)(hW:1<=W/\W<=5)(hH5:1<=H/\H<=5)(hn:cs.length<=25)(hH:cs.length / W=H)(k:Int)(bk:Nat)(hk:w.cell? ⟨bk,0,none⟩=some (.int .i64 k))(a3 b3:Int)(c3:Bool)(hv:in3 W H cs.length k=(a3,b3,c3)) :
  Calls (SqG.prog aLt) 44 #[.agg #[.int .i64 (W:Int),.slice a cs.length cap],.agg #[.int .i64 0,.int .i64 0,.bool false],.func (.func 45) #[] #[.pointer (some ⟨bk,0,none⟩)]] w fun e w'=>e=.returned (.agg #[.int .i64 a3,.int .i64 b3,.bool c3])/\Below w.heap.size w w':=by
 have HH:Hid (cs.length / W=H):=hH
 have hWa:=hW.1
 have hWb:=hW.2
 have hHa:=hH5.1
 have hHb:=hH5.2
 have hn0:0<=(cs.length:Int):=qg
 have hnb:(cs.length:Int)<=25:=qg
 clear hH
 obtain⟨a0,b0,c0,ev0⟩:∃ a b c,in0 W k=(a,b,c):=⟨_,_,_,rfl⟩
 obtain⟨a1,b1,c1,ev1⟩:∃ a b c,in1 W H k=(a,b,c):=⟨_,_,_,rfl⟩
 obtain⟨a2,b2,c2,ev2⟩:∃ a b c,in2 W H cs.length k=(a,b,c):=⟨_,_,_,rfl⟩
 have EV0:Hid ((a0,b0,c0)=if 0<=k/\k<0+(W:Int) then (0+(k - 0) * 1,2,true) else (0,0,false)):=ev0.symm
 have EV1:Hid ((a1,b1,c1)=if (W:Int)<=k/\k<(W:Int)+(H:Int) then ((W:Int) - 1+(k - (W:Int)) * (W:Int),3,true) else (a0,b0,c0)):=by show _=_;rw[<- ev0];exact ev1.symm
 have EV2:Hid ((a2,b2,c2)=if (W:Int)+(H:Int)<=k/\k<(W:Int)+(H:Int)+(W:Int) then ((cs.length:Int) - 1+(k - ((W:Int)+(H:Int))) * (-1),0,true) else (a1,b1,c1)):=by show _=_;rw[<- ev1];exact ev2.symm
 have EV3:Hid ((a3,b3,c3)=if (W:Int)+(H:Int)+(W:Int)<=k/\k<(W:Int)+(H:Int)+(W:Int)+(H:Int) then ((cs.length:Int) - 1 - (W:Int)+1+(k - ((W:Int)+(H:Int)+(W:Int))) * (-(W:Int)),1,true) else (a2,b2,c2)):=by show _=_;rw[<- ev2];exact hv.symm
 clear ev0 ev1 ev2 hv
 go_enter (zfx func44),ntmps44
 go_wp2_with fail
 refine(zav _ _ _ cs _ (h.below bel) qg).mono ?_
 rintro e x0 ⟨rfl,hb0⟩
 have g0:x0.cell? ⟨w.heap.size,0,none⟩=some (.int .i64 (W:Int)):=zad hb0 qj
 have g1:x0.cell? ⟨w.heap.size,1,none⟩=some (.slice a cs.length cap):=zad hb0 qj
 have q0:x0.cell? ⟨w.heap.size+1,0,none⟩=some (.int .i64 0):=zad hb0 qj
 have q1:x0.cell? ⟨w.heap.size+1,1,none⟩=some (.int .i64 0):=zad hb0 qj
 have q2:x0.cell? ⟨w.heap.size+1,2,none⟩=some (.bool false):=zad hb0 qj
 have r0:x0.cell? ⟨w.heap.size+1+1,0,none⟩=some (.int .i64 0):=zad hb0 qj
 have r1:x0.cell? ⟨w.heap.size+1+1,1,none⟩=some (.int .i64 0):=zad hb0 qj
 have r2:x0.cell? ⟨w.heap.size+1+1,2,none⟩=some (.bool false):=zad hb0 qj
 have f0:x0.frozen? ⟨w.heap.size+1,0,none⟩=false:=zal hb0 (v:=.int .i64 0) qj qj
 have f1:x0.frozen? ⟨w.heap.size+1,1,none⟩=false:=zal hb0 (v:=.int .i64 0) qj qj
 have f2:x0.frozen? ⟨w.heap.size+1,2,none⟩=false:=zal hb0 (v:=.bool false) qj qj
 have e0:x0.frozen? ⟨w.heap.size+1+1,0,none⟩=false:=zal hb0 (v:=.int .i64 0) qj qj
 have e1:x0.frozen? ⟨w.heap.size+1+1,1,none⟩=false:=zal hb0 (v:=.int .i64 0) qj qj
 have e2:x0.frozen? ⟨w.heap.size+1+1,2,none⟩=false:=zal hb0 (v:=.bool false) qj qj
 have hz0:=hb0.size
 simp at hz0
 have hB0:Below w.heap.size w x0:=zai bel qq hb0
 clear hb0
 go_wp2_with fail
 refine(zbX W H a cs.length cap _ hW hH5 hn HH.out).mono ?_
 rintro e x1 ⟨rfl,hb1⟩
 have hz1:=hb1.size
 have hB1:Below w.heap.size w x1:=zai hB0 qg hb1
 replace f0:=zal hb1 q0 f0;replace f1:=zal hb1 q1 f1;replace f2:=zal hb1 q2 f2;replace e0:=zal hb1 r0 e0;replace e1:=zal hb1 r1 e1;replace e2:=zal hb1 r2 e2;replace q0:=zad hb1 q0;replace q1:=zad hb1 q1;replace q2:=zad hb1 q2;replace r0:=zad hb1 r0;replace r1:=zad hb1 r1;replace r2:=zad hb1 r2
 clear hb1 g0 g1 HH hok h hW hH5
 have i0:=zhg (aLt:=aLt) (W:Int) (H:Int) (cs.length:Int)
 have i1:=zhh (aLt:=aLt) (W:Int) (H:Int) (cs.length:Int)
 have i2:=zhi (aLt:=aLt) (W:Int) (H:Int) (cs.length:Int)
 have i3:=zhj (aLt:=aLt) (W:Int) (H:Int) (cs.length:Int)
 go_wp2_with fail
 refine wp_loop_rounds 5 ?_
 have hO0:Below x1.heap.size x1 (x1.alloc (.cells #[.int .i64 (0),.int .i64 ((W:Int)),.int .i64 (0),.int .i64 (1),.int .i64 (2),.int .i64 (0)] 86)):=(Below.refl _ _).alloc (Nat.le_refl _) _
 have s0:=zad hO0 q0
 have s1:=zad hO0 q1
 have s2:=zad hO0 q2
 clear hO0
 rw[rounds_succ]
 go_wp2_with fail
 clear s0 s1 s2
 refine(zcE _ _ _ _ W _ _ _ _ k bk _ qg qg qg qg ((hB1.alloc qg _).cell (World.block_lt_of_cell? w _ hk) |>.trans hk) _ _ _ EV0.out).mono ?_
 rintro e x2 ⟨rfl,hc2⟩
 have hz2:=hc2.size
 simp at hz2
 have hB2:Below w.heap.size w x2:=zai (hB1.alloc qg _) ql hc2
 have hA0:Below x1.heap.size x1 x2:=zai ((Below.refl _ _).alloc (Nat.le_refl _) _) qk hc2
 replace f0:=zal hA0 q0 f0;replace f1:=zal hA0 q1 f1;replace f2:=zal hA0 q2 f2;replace e0:=zal hA0 r0 e0;replace e1:=zal hA0 r1 e1;replace e2:=zal hA0 r2 e2;replace q0:=zad hA0 q0;replace q1:=zad hA0 q1;replace q2:=zad hA0 q2;replace r0:=zad hA0 r0;replace r1:=zad hA0 r1;replace r2:=zad hA0 r2
 clear hc2 hA0
 go_wp2_with fail
 obtain⟨y1,hy1⟩:∃ y,y=((x2.setCell ⟨w.heap.size+1,0,none⟩ (.int .i64 a0)).setCell ⟨w.heap.size+1,1,none⟩ (.int .i64 b0)).setCell ⟨w.heap.size+1,2,none⟩ (.bool c0):=⟨_,rfl⟩
 rw[<- hy1]
 have hY1:Below w.heap.size w y1:=by
  rw[hy1]
  exact((hB2.setCell (p:=⟨w.heap.size+1,0,none⟩) qk _).setCell (p:=⟨w.heap.size+1,1,none⟩) qk _).setCell (p:=⟨w.heap.size+1,2,none⟩) qk _
 have hZ1:x2.heap.size<=y1.heap.size:=by rw[hy1];simp[go_sem]
 replace q0:y1.cell? ⟨w.heap.size+1,0,none⟩=some (.int .i64 a0):=by rw[hy1];simp[go_sem,q0]
 replace q1:y1.cell? ⟨w.heap.size+1,1,none⟩=some (.int .i64 b0):=by rw[hy1];simp[go_sem,q1]
 replace q2:y1.cell? ⟨w.heap.size+1,2,none⟩=some (.bool c0):=by rw[hy1];simp[go_sem,q2]
 replace r0:y1.cell? ⟨w.heap.size+1+1,0,none⟩=some (.int .i64 0):=by rw[hy1];simp[go_sem,r0]
 replace r1:y1.cell? ⟨w.heap.size+1+1,1,none⟩=some (.int .i64 0):=by rw[hy1];simp[go_sem,r1]
 replace r2:y1.cell? ⟨w.heap.size+1+1,2,none⟩=some (.bool false):=by rw[hy1];simp[go_sem,r2]
 replace f0:y1.frozen? ⟨w.heap.size+1,0,none⟩=false:=by rw[hy1];simp[go_sem,f0]
 replace f1:y1.frozen? ⟨w.heap.size+1,1,none⟩=false:=by rw[hy1];simp[go_sem,f1]
 replace f2:y1.frozen? ⟨w.heap.size+1,2,none⟩=false:=by rw[hy1];simp[go_sem,f2]
 replace e0:y1.frozen? ⟨w.heap.size+1+1,0,none⟩=false:=by rw[hy1];simp[go_sem,e0]
 replace e1:y1.frozen? ⟨w.heap.size+1+1,1,none⟩=false:=by rw[hy1];simp[go_sem,e1]
 replace e2:y1.frozen? ⟨w.heap.size+1+1,2,none⟩=false:=by rw[hy1];simp[go_sem,e2]
 clear hy1 hB2
 have hO1:Below y1.heap.size y1 (y1.alloc (.cells #[.int .i64 ((W:Int)),.int .i64 ((H:Int)),.int .i64 ((W:Int) - 1),.int .i64 ((W:Int)),.int .i64 (3),.int .i64 (1)] 86)):=(Below.refl _ _).alloc (Nat.le_refl _) _
 have s0:=zad hO1 q0
 have s1:=zad hO1 q1
 have s2:=zad hO1 q2
 clear hO1
 rw[rounds_succ]
 go_wp2_with fail
 clear s0 s1 s2
 refine(zcE _ _ _ _ H _ _ _ _ k bk _ qg qg qg qg ((hY1.alloc qg _).cell (World.block_lt_of_cell? w _ hk) |>.trans hk) _ _ _ EV1.out).mono ?_
 rintro e x3 ⟨rfl,hc3⟩
 have hz3:=hc3.size
 simp at hz3
 have hB3:Below w.heap.size w x3:=zai (hY1.alloc qg _) ql hc3
 have hA1:Below y1.heap.size y1 x3:=zai ((Below.refl _ _).alloc (Nat.le_refl _) _) qk hc3
 replace f0:=zal hA1 q0 f0;replace f1:=zal hA1 q1 f1;replace f2:=zal hA1 q2 f2;replace e0:=zal hA1 r0 e0;replace e1:=zal hA1 r1 e1;replace e2:=zal hA1 r2 e2;replace q0:=zad hA1 q0;replace q1:=zad hA1 q1;replace q2:=zad hA1 q2;replace r0:=zad hA1 r0;replace r1:=zad hA1 r1;replace r2:=zad hA1 r2
 clear hc3 hA1
 go_wp2_with fail
 obtain⟨y2,hy2⟩:∃ y,y=((x3.setCell ⟨w.heap.size+1,0,none⟩ (.int .i64 a1)).setCell ⟨w.heap.size+1,1,none⟩ (.int .i64 b1)).setCell ⟨w.heap.size+1,2,none⟩ (.bool c1):=⟨_,rfl⟩
 rw[<- hy2]
 have hY2:Below w.heap.size w y2:=by
  rw[hy2]
  exact((hB3.setCell (p:=⟨w.heap.size+1,0,none⟩) qk _).setCell (p:=⟨w.heap.size+1,1,none⟩) qk _).setCell (p:=⟨w.heap.size+1,2,none⟩) qk _
 have hZ2:x3.heap.size<=y2.heap.size:=by rw[hy2];simp[go_sem]
 replace q0:y2.cell? ⟨w.heap.size+1,0,none⟩=some (.int .i64 a1):=by rw[hy2];simp[go_sem,q0]
 replace q1:y2.cell? ⟨w.heap.size+1,1,none⟩=some (.int .i64 b1):=by rw[hy2];simp[go_sem,q1]
 replace q2:y2.cell? ⟨w.heap.size+1,2,none⟩=some (.bool c1):=by rw[hy2];simp[go_sem,q2]
 replace r0:y2.cell? ⟨w.heap.size+1+1,0,none⟩=some (.int .i64 0):=by rw[hy2];simp[go_sem,r0]
 replace r1:y2.cell? ⟨w.heap.size+1+1,1,none⟩=some (.int .i64 0):=by rw[hy2];simp[go_sem,r1]
 replace r2:y2.cell? ⟨w.heap.size+1+1,2,none⟩=some (.bool false):=by rw[hy2];simp[go_sem,r2]
 replace f0:y2.frozen? ⟨w.heap.size+1,0,none⟩=false:=by rw[hy2];simp[go_sem,f0]
 replace f1:y2.frozen? ⟨w.heap.size+1,1,none⟩=false:=by rw[hy2];simp[go_sem,f1]
 replace f2:y2.frozen? ⟨w.heap.size+1,2,none⟩=false:=by rw[hy2];simp[go_sem,f2]
 replace e0:y2.frozen? ⟨w.heap.size+1+1,0,none⟩=false:=by rw[hy2];simp[go_sem,e0]
 replace e1:y2.frozen? ⟨w.heap.size+1+1,1,none⟩=false:=by rw[hy2];simp[go_sem,e1]
 replace e2:y2.frozen? ⟨w.heap.size+1+1,2,none⟩=false:=by rw[hy2];simp[go_sem,e2]
 clear hy2 hB3
 have hO2:Below y2.heap.size y2 (y2.alloc (.cells #[.int .i64 ((W:Int)+(H:Int)),.int .i64 ((W:Int)),.int .i64 ((cs.length:Int) - 1),.int .i64 (-1),.int .i64 (0),.int .i64 (2)] 86)):=(Below.refl _ _).alloc (Nat.le_refl _) _
 have s0:=zad hO2 q0
 have s1:=zad hO2 q1
 have s2:=zad hO2 q2
 clear hO2
 rw[rounds_succ]
 go_wp2_with fail
 clear s0 s1 s2
 refine(zcE _ _ _ _ W _ _ _ _ k bk _ qg qg qg qg ((hY2.alloc qg _).cell (World.block_lt_of_cell? w _ hk) |>.trans hk) _ _ _ EV2.out).mono ?_
 rintro e x4 ⟨rfl,hc4⟩
 have hz4:=hc4.size
 simp at hz4
 have hB4:Below w.heap.size w x4:=zai (hY2.alloc qg _) ql hc4
 have hA2:Below y2.heap.size y2 x4:=zai ((Below.refl _ _).alloc (Nat.le_refl _) _) qk hc4
 replace f0:=zal hA2 q0 f0;replace f1:=zal hA2 q1 f1;replace f2:=zal hA2 q2 f2;replace e0:=zal hA2 r0 e0;replace e1:=zal hA2 r1 e1;replace e2:=zal hA2 r2 e2;replace q0:=zad hA2 q0;replace q1:=zad hA2 q1;replace q2:=zad hA2 q2;replace r0:=zad hA2 r0;replace r1:=zad hA2 r1;replace r2:=zad hA2 r2
 clear hc4 hA2
 go_wp2_with fail
 obtain⟨y3,hy3⟩:∃ y,y=((x4.setCell ⟨w.heap.size+1,0,none⟩ (.int .i64 a2)).setCell ⟨w.heap.size+1,1,none⟩ (.int .i64 b2)).setCell ⟨w.heap.size+1,2,none⟩ (.bool c2):=⟨_,rfl⟩
 rw[<- hy3]
 have hY3:Below w.heap.size w y3:=by
  rw[hy3]
  exact((hB4.setCell (p:=⟨w.heap.size+1,0,none⟩) qk _).setCell (p:=⟨w.heap.size+1,1,none⟩) qk _).setCell (p:=⟨w.heap.size+1,2,none⟩) qk _
 have hZ3:x4.heap.size<=y3.heap.size:=by rw[hy3];simp[go_sem]
 replace q0:y3.cell? ⟨w.heap.size+1,0,none⟩=some (.int .i64 a2):=by rw[hy3];simp[go_sem,q0]
 replace q1:y3.cell? ⟨w.heap.size+1,1,none⟩=some (.int .i64 b2):=by rw[hy3];simp[go_sem,q1]
 replace q2:y3.cell? ⟨w.heap.size+1,2,none⟩=some (.bool c2):=by rw[hy3];simp[go_sem,q2]
 replace r0:y3.cell? ⟨w.heap.size+1+1,0,none⟩=some (.int .i64 0):=by rw[hy3];simp[go_sem,r0]
 replace r1:y3.cell? ⟨w.heap.size+1+1,1,none⟩=some (.int .i64 0):=by rw[hy3];simp[go_sem,r1]
 replace r2:y3.cell? ⟨w.heap.size+1+1,2,none⟩=some (.bool false):=by rw[hy3];simp[go_sem,r2]
 replace f0:y3.frozen? ⟨w.heap.size+1,0,none⟩=false:=by rw[hy3];simp[go_sem,f0]
 replace f1:y3.frozen? ⟨w.heap.size+1,1,none⟩=false:=by rw[hy3];simp[go_sem,f1]
 replace f2:y3.frozen? ⟨w.heap.size+1,2,none⟩=false:=by rw[hy3];simp[go_sem,f2]
 replace e0:y3.frozen? ⟨w.heap.size+1+1,0,none⟩=false:=by rw[hy3];simp[go_sem,e0]
 replace e1:y3.frozen? ⟨w.heap.size+1+1,1,none⟩=false:=by rw[hy3];simp[go_sem,e1]
 replace e2:y3.frozen? ⟨w.heap.size+1+1,2,none⟩=false:=by rw[hy3];simp[go_sem,e2]
 clear hy3 hB4
 have hO3:Below y3.heap.size y3 (y3.alloc (.cells #[.int .i64 ((W:Int)+(H:Int)+(W:Int)),.int .i64 ((H:Int)),.int .i64 ((cs.length:Int) - 1 - (W:Int)+1),.int .i64 (-(W:Int)),.int .i64 (1),.int .i64 (3)] 86)):=(Below.refl _ _).alloc (Nat.le_refl _) _
 have s0:=zad hO3 q0
 have s1:=zad hO3 q1
 have s2:=zad hO3 q2
 clear hO3
 rw[rounds_succ]
 go_wp2_with fail
 clear s0 s1 s2
 refine(zcE _ _ _ _ H _ _ _ _ k bk _ qg qg qg qg ((hY3.alloc qg _).cell (World.block_lt_of_cell? w _ hk) |>.trans hk) _ _ _ EV3.out).mono ?_
 rintro e x5 ⟨rfl,hc5⟩
 have hz5:=hc5.size
 simp at hz5
 have hB5:Below w.heap.size w x5:=zai (hY3.alloc qg _) ql hc5
 have hA3:Below y3.heap.size y3 x5:=zai ((Below.refl _ _).alloc (Nat.le_refl _) _) qk hc5
 replace f0:=zal hA3 q0 f0;replace f1:=zal hA3 q1 f1;replace f2:=zal hA3 q2 f2;replace e0:=zal hA3 r0 e0;replace e1:=zal hA3 r1 e1;replace e2:=zal hA3 r2 e2;replace q0:=zad hA3 q0;replace q1:=zad hA3 q1;replace q2:=zad hA3 q2;replace r0:=zad hA3 r0;replace r1:=zad hA3 r1;replace r2:=zad hA3 r2
 clear hc5 hA3
 go_wp2_with fail
 obtain⟨y4,hy4⟩:∃ y,y=((x5.setCell ⟨w.heap.size+1,0,none⟩ (.int .i64 a3)).setCell ⟨w.heap.size+1,1,none⟩ (.int .i64 b3)).setCell ⟨w.heap.size+1,2,none⟩ (.bool c3):=⟨_,rfl⟩
 rw[<- hy4]
 have hY4:Below w.heap.size w y4:=by
  rw[hy4]
  exact((hB5.setCell (p:=⟨w.heap.size+1,0,none⟩) qk _).setCell (p:=⟨w.heap.size+1,1,none⟩) qk _).setCell (p:=⟨w.heap.size+1,2,none⟩) qk _
 have hZ4:x5.heap.size<=y4.heap.size:=by rw[hy4];simp[go_sem]
 replace q0:y4.cell? ⟨w.heap.size+1,0,none⟩=some (.int .i64 a3):=by rw[hy4];simp[go_sem,q0]
 replace q1:y4.cell? ⟨w.heap.size+1,1,none⟩=some (.int .i64 b3):=by rw[hy4];simp[go_sem,q1]
 replace q2:y4.cell? ⟨w.heap.size+1,2,none⟩=some (.bool c3):=by rw[hy4];simp[go_sem,q2]
 replace r0:y4.cell? ⟨w.heap.size+1+1,0,none⟩=some (.int .i64 0):=by rw[hy4];simp[go_sem,r0]
 replace r1:y4.cell? ⟨w.heap.size+1+1,1,none⟩=some (.int .i64 0):=by rw[hy4];simp[go_sem,r1]
 replace r2:y4.cell? ⟨w.heap.size+1+1,2,none⟩=some (.bool false):=by rw[hy4];simp[go_sem,r2]
 replace f0:y4.frozen? ⟨w.heap.size+1,0,none⟩=false:=by rw[hy4];simp[go_sem,f0]
 replace f1:y4.frozen? ⟨w.heap.size+1,1,none⟩=false:=by rw[hy4];simp[go_sem,f1]
 replace f2:y4.frozen? ⟨w.heap.size+1,2,none⟩=false:=by rw[hy4];simp[go_sem,f2]
 replace e0:y4.frozen? ⟨w.heap.size+1+1,0,none⟩=false:=by rw[hy4];simp[go_sem,e0]
 replace e1:y4.frozen? ⟨w.heap.size+1+1,1,none⟩=false:=by rw[hy4];simp[go_sem,e1]
 replace e2:y4.frozen? ⟨w.heap.size+1+1,2,none⟩=false:=by rw[hy4];simp[go_sem,e2]
 clear hy4 hB5
 rw[rounds_succ]
 go_wp2_with fail
 refine bodyPost_ret (v:=.agg #[.int .i64 a3,.int .i64 b3,.bool c3]) (by simp[results,results44,go_sem,r0,r1,r2]) rfl ⟨rfl,?_⟩
 repeat (refine Below.setCell ?_ qq _)
 exact hY4
theorem zm6(wd:Int)(a:Option Addr)(cap:Nat)(cs:List (Int × Int))(w:World)(h:zaf w a cs)(hbad:okG wd cs=false)(hm:cs.length<=1048576)(t:Value) :
  Calls (SqG.prog aLt) 44 #[.agg #[.int .i64 wd,.slice a cs.length cap],.agg #[.int .i64 0,.int .i64 0,.bool false],t] w fun e w'=>e=.returned (.agg #[.int .i64 0,.int .i64 0,.bool false])/\Below w.heap.size w w':=by
 go_enter (zfx func44),ntmps44
 go_wp2_with fail
 refine(zav _ _ _ cs _ (h.below bel) qg).mono ?_
 rintro e x0 ⟨rfl,hb0⟩
 have q0:x0.cell? ⟨w.heap.size+1,0,none⟩=some (.int .i64 0):=zad hb0 qj
 have q1:x0.cell? ⟨w.heap.size+1,1,none⟩=some (.int .i64 0):=zad hb0 qj
 have q2:x0.cell? ⟨w.heap.size+1,2,none⟩=some (.bool false):=zad hb0 qj
 have r0:x0.cell? ⟨w.heap.size+1+1,0,none⟩=some (.int .i64 0):=zad hb0 qj
 have r1:x0.cell? ⟨w.heap.size+1+1,1,none⟩=some (.int .i64 0):=zad hb0 qj
 have r2:x0.cell? ⟨w.heap.size+1+1,2,none⟩=some (.bool false):=zad hb0 qj
 have e0:x0.frozen? ⟨w.heap.size+1+1,0,none⟩=false:=zal hb0 (v:=.int .i64 0) qj qj
 have e1:x0.frozen? ⟨w.heap.size+1+1,1,none⟩=false:=zal hb0 (v:=.int .i64 0) qj qj
 have e2:x0.frozen? ⟨w.heap.size+1+1,2,none⟩=false:=zal hb0 (v:=.bool false) qj qj
 have hB0:Below w.heap.size w x0:=zai bel qq hb0
 clear hb0
 go_wp2_with fail
 refine bodyPost_ret (v:=.agg #[.int .i64 0,.int .i64 0,.bool false]) (by simp[results,results44,go_sem,r0,r1,r2]) rfl ⟨rfl,?_⟩
 repeat (refine Below.setCell ?_ qq _)
 exact hB0
def zbU(wd:Int)(cs:List (Int × Int)):Int:=if okG wd cs=true then 2 * (wd+(cs.length:Int) / wd) else 0
def zbT(wd:Int)(cs:List (Int × Int))(k:Int):Int × Int × Bool :=
 if okG wd cs=true/\0<=k/\k<zbU wd cs then ((zds wd ((cs.length:Int) / wd) k).1,(zds wd ((cs.length:Int) / wd) k).2,true) else (0,0,false)
def zcy(wd:Int)(cs:List (Int × Int))(x d:Int):Int :=
 if okG wd cs=true/\(0<=x/\x<(cs.length:Int))/\(0<=d/\d<=3) then ofN wd ((cs.length:Int) / wd) x d (zbU wd cs).toNat else -1
theorem zcw(hok:okG (W:Int) cs=true)(hH:(cs.length:Int) / (W:Int)=(H:Int)):zbU (W:Int) cs=2 * ((W:Int)+(H:Int)):=by
 unfold zbU;rw[if_pos hok,hH]
theorem zin(hok:okG wd cs=false):zbU wd cs=0:=by
 unfold zbU;rw[if_neg (by simp[hok])]
theorem znb(hok:okG wd cs=false)(k:Int):zbT wd cs k=(0,0,false):=by
 unfold zbT;rw[if_neg (by simp[hok])]
theorem znx(hok:okG wd cs=false)(x d:Int):zcy wd cs x d=-1:=by
 unfold zcy;rw[if_neg (by simp[hok])]
def zI(n:Nat):Int:=n
theorem zrK:∀ W:Fin 5,∀ H:Fin 5,∀ k:Fin 20,k.val<2 * (W.val+1+(H.val+1)) ->
  in3 (W.val+1) (H.val+1) ((W.val+1) * (H.val+1)) (zI k.val)=((zds (zI (W.val+1)) (zI (H.val+1)) (zI k.val)).1,(zds (zI (W.val+1)) (zI (H.val+1)) (zI k.val)).2,true):=by decide +kernel
theorem zrS:∀ W:Fin 5,∀ H:Fin 5,∀ x:Fin 25,∀ d:Fin 4,x.val<(W.val+1) * (H.val+1) ->
  of3 (W.val+1) (H.val+1) ((W.val+1) * (H.val+1)) (zI x.val) (zI d.val)=ofN (zI (W.val+1)) (zI (H.val+1)) (zI x.val) (zI d.val) (2 * (W.val+1+(H.val+1))):=by decide +kernel
theorem zpN:∀ W:Fin 5,∀ H:Fin 5,∀ j:Fin 5,
  (j.val<W.val+1->0<=0+zI j.val * 1/\0+zI j.val * 1<zI ((W.val+1) * (H.val+1))) /\
  (j.val<H.val+1->0<=zI (W.val+1) - 1+zI j.val * zI (W.val+1)/\zI (W.val+1) - 1+zI j.val * zI (W.val+1)<zI ((W.val+1) * (H.val+1))) /\
  (j.val<W.val+1->0<=zI ((W.val+1) * (H.val+1)) - 1+zI j.val * (-1)/\zI ((W.val+1) * (H.val+1)) - 1+zI j.val * (-1)<zI ((W.val+1) * (H.val+1))) /\
  (j.val<H.val+1->0<=zI ((W.val+1) * (H.val+1)) - 1 - zI (W.val+1)+1+zI j.val * (-zI (W.val+1))/\zI ((W.val+1) * (H.val+1)) - 1 - zI (W.val+1)+1+zI j.val * (-zI (W.val+1))<zI ((W.val+1) * (H.val+1))):=by decide +kernel
theorem zhu(f s o x:Int)(m:Nat)(h:∀ j:Nat,j<m->s+(j:Int) * o≠x):sa f s o x m=-1:=by
 induction m with
 | zero=>rfl
 | succ m ih=>exact znR f s o x m (ih fun j hj=>h j qg) (h m qg)
theorem zrI(W H:Nat)(hW:1<=W/\W<=5)(hH:1<=H/\H<=5)(k:Int) :
  in3 W H (W * H) k=if 0<=k/\k<2 * ((W:Int)+(H:Int)) then ((zds W H k).1,(zds W H k).2,true) else (0,0,false):=by
 by_cases hk:0<=k/\k<2 * ((W:Int)+(H:Int))
 ·rw[if_pos hk]
  obtain⟨K,rfl⟩:=Int.eq_ofNat_of_zero_le hk.1
  have:=zrK ⟨W - 1,qg⟩ ⟨H - 1,qg⟩ ⟨K,qg⟩
  simp only[show W - 1+1=W by omega,show H - 1+1=H by omega,zI] at this
  exact this qg
 ·rw[if_neg hk]
  unfold in3 in2 in1 in0
  rw[if_neg qg,if_neg qg,if_neg qg,if_neg qg]
theorem zrR(W H:Nat)(hW:1<=W/\W<=5)(hH:1<=H/\H<=5)(x d:Int) :
  of3 W H (W * H) x d=if (0<=x/\x<((W * H:Nat):Int))/\(0<=d/\d<=3) then ofN W H x d (2 * (W+H)) else -1:=by
 have hm:W * H<=25:=Nat.le_trans (Nat.mul_le_mul hW.2 hH.2) qg
 by_cases hd:0<=d/\d<=3
 ·by_cases hx:0<=x/\x<((W * H:Nat):Int)
  ·rw[if_pos ⟨hx,hd⟩]
   obtain⟨X,rfl⟩:=Int.eq_ofNat_of_zero_le hx.1
   obtain⟨D,rfl⟩:=Int.eq_ofNat_of_zero_le hd.1
   have:=zrS ⟨W - 1,qg⟩ ⟨H - 1,qg⟩ ⟨X,qg⟩ ⟨D,qg⟩
   simp only[show W - 1+1=W by omega,show H - 1+1=H by omega,zI] at this
   exact this qg
  ·rw[if_neg (fun q=>hx q.1)]
   have hf:=fun (j:Nat) (hj:j<5)=>zpN ⟨W - 1,qg⟩ ⟨H - 1,qg⟩ ⟨j,hj⟩
   simp only[show W - 1+1=W by omega,show H - 1+1=H by omega,zI] at hf
   have n0:sa 0 0 1 x W=-1:=zhu _ _ _ _ _ fun j hj e=>hx (by have:=(hf j qg).1 hj;omega)
   have n1:sa (W:Int) ((W:Int) - 1) (W:Int) x H=-1:=zhu _ _ _ _ _ fun j hj e=>hx (by have:=(hf j qg).2.1 hj;rw[e] at this;exact this)
   have n2:sa ((W:Int)+(H:Int)) (((W * H:Nat):Int) - 1) (-1) x W=-1:=zhu _ _ _ _ _ fun j hj e=>hx (by have:=(hf j qg).2.2.1 hj;rw[e] at this;exact this)
   have n3:sa ((W:Int)+(H:Int)+(W:Int)) (((W * H:Nat):Int) - 1 - (W:Int)+1) (-(W:Int)) x H=-1:=zhu _ _ _ _ _ fun j hj e=>hx (by have:=(hf j qg).2.2.2 hj;rw[e] at this;exact this)
   unfold of3 of2 of1 of0
   rw[n0,n1,n2,n3]
   repeat' split
   all_goals rfl
 ·rw[if_neg (fun q=>hd q.2)]
  unfold of3 of2 of1 of0
  rw[if_neg qg,if_neg qg,if_neg qg,if_neg qg]
theorem znc(hok:okG (W:Int) cs=true)(hW:1<=W/\W<=5)(hH5:1<=H/\H<=5)(hl:cs.length=W * H)(hH:(cs.length:Int) / (W:Int)=(H:Int))(k:Int):in3 W H cs.length k=zbT (W:Int) cs k:=by
 rw[hl,zrI W H hW hH5 k]
 unfold zbT
 rw[zcw hok hH,hH]
 by_cases hk:0<=k/\k<2 * ((W:Int)+(H:Int))
 ·rw[if_pos hk,if_pos ⟨hok,hk⟩]
 ·rw[if_neg hk,if_neg (fun q=>hk q.2)]
theorem zny(hok:okG (W:Int) cs=true)(hW:1<=W/\W<=5)(hH5:1<=H/\H<=5)(hl:cs.length=W * H)(hH:(cs.length:Int) / (W:Int)=(H:Int))(x d:Int):of3 W H cs.length x d=zcy (W:Int) cs x d:=by
 unfold zcy
 rw[zcw hok hH,hH,hl,zrR W H hW hH5 x d]
 rw[show (2 * ((W:Int)+(H:Int))).toNat=2 * (W+H) by omega]
 by_cases hx:(0<=x/\x<((W * H:Nat):Int))/\(0<=d/\d<=3)
 ·rw[if_pos hx,if_pos ⟨hok,hx⟩]
 ·rw[if_neg hx,if_neg (fun q=>hx q.2)]
theorem zcT(wd:Int)(a:Option Addr)(cap:Nat)(cs:List (Int × Int))(w:World)(h:zaf w a cs)(hm:cs.length<=1048576) :
  Calls (SqG.prog aLt) 60 #[.agg #[.int .i64 wd,.slice a cs.length cap]] w fun e w'=>e=.returned (.int .i64 (zbU wd cs))/\Below w.heap.size w w':=by
 rcases hk:okG wd cs with _|_
 ·rw[zin hk]
  go_enter (zfx func60),ntmps60
  go_wp2_with fail
  refine(zh3 _ _ _ cs _ (h.below bel) hk hm _ _).mono ?_
  rintro e x0 ⟨rfl,hb0⟩
  go_wp2_with fail
  go_ret
  exact⟨rfl,zai bel qk hb0⟩
 ·obtain⟨W,H,rfl,h1,h2,h3,h4,el,hH,hHI⟩:=zfG wd cs hk
  have hn:cs.length<=25:=by rw[el];exact Nat.le_trans (Nat.mul_le_mul h2 h4) qg
  have EL:Hid (cs.length=W * H):=el
  have HH:Hid (cs.length / W=H):=hH
  have HI:Hid ((cs.length:Int) / (W:Int)=(H:Int)):=hHI
  clear el hH hHI
  obtain⟨M,hM⟩:∃ M,zbU (W:Int) cs=M:=⟨_,rfl⟩
  rw[hM]
  have EM:Hid ((W:Int)+(H:Int)+(W:Int)+(H:Int)=M):=by show _=_;rw[<- hM,zcw hk HI.out];omega
  clear hM
  go_enter (zfx func60),ntmps60
  go_wp2_with fail
  refine(zm5 W H _ _ cs _ (h.below bel) hk ⟨h1,h2⟩ ⟨h3,h4⟩ hn HH.out).mono ?_
  rintro e x0 ⟨rfl,hb0⟩
  rw[EM.out]
  go_wp2_with fail
  go_ret
  exact⟨rfl,zai bel qk hb0⟩
theorem zlm(wd:Int)(a:Option Addr)(cap:Nat)(cs:List (Int × Int))(w:World)(h:zaf w a cs)(hm:cs.length<=1048576)(x d:Int) :
  Calls (SqG.prog aLt) 53 #[.agg #[.int .i64 wd,.slice a cs.length cap],.int .i64 x,.int .i64 d] w fun e w'=>e=.returned (.int .i64 (zcy wd cs x d))/\Below w.heap.size w w':=by
 rcases hk:okG wd cs with _|_
 ·rw[znx hk]
  go_enter (zfx func53),ntmps53
  go_wp2_with fail
  refine(zh3 _ _ _ cs _ (h.below bel) hk hm _ _).mono ?_
  rintro e x0 ⟨rfl,hb0⟩
  go_wp2_with fail
  go_ret
  exact⟨rfl,zai bel qq hb0⟩
 ·obtain⟨W,H,rfl,h1,h2,h3,h4,el,hH,hHI⟩:=zfG wd cs hk
  have hn:cs.length<=25:=by rw[el];exact Nat.le_trans (Nat.mul_le_mul h2 h4) qg
  have EL:Hid (cs.length=W * H):=el
  have HH:Hid (cs.length / W=H):=hH
  have HI:Hid ((cs.length:Int) / (W:Int)=(H:Int)):=hHI
  clear el hH hHI
  obtain⟨v,hv⟩:∃ v,zcy (W:Int) cs x d=v:=⟨_,rfl⟩
  rw[hv]
  have EV:Hid (of3 W H cs.length x d=v):=(zny hk ⟨h1,h2⟩ ⟨h3,h4⟩ EL.out HI.out x d).trans hv
  clear hv
  go_enter (zfx func53),ntmps53
  go_wp2_with fail
  refine(zq2 W H _ _ cs _ (h.below bel) hk ⟨h1,h2⟩ ⟨h3,h4⟩ hn HH.out x d _ _ qj qj).mono ?_
  rintro e x0 ⟨rfl,hb0⟩
  rw[EV.out]
  go_wp2_with fail
  go_ret
  exact⟨rfl,zai bel qq hb0⟩
theorem zjk(wd:Int)(a:Option Addr)(cap:Nat)(cs:List (Int × Int))(w:World)(h:zaf w a cs)(hm:cs.length<=1048576)(k x d:Int)(b:Bool)(hv:zbT wd cs k=(x,d,b)) :
  Calls (SqG.prog aLt) 30 #[.agg #[.int .i64 wd,.slice a cs.length cap],.int .i64 k] w fun e w'=>e=.returned (.tuple #[.agg #[.int .i64 x,.int .i64 d],.bool b])/\Below w.heap.size w w':=by
 have HC:Hid (∀ w',Below w.heap.size w w'->∀ bk,w'.cell? ⟨bk,0,none⟩=some (.int .i64 k)->Calls (SqG.prog aLt) 44 #[.agg #[.int .i64 wd,.slice a cs.length cap],.agg #[.int .i64 0,.int .i64 0,.bool false],.func (.func 45) #[] #[.pointer (some ⟨bk,0,none⟩)]] w' fun e w''=>e=.returned (.agg #[.int .i64 x,.int .i64 d,.bool b])/\Below w'.heap.size w' w''):=by
  intro w' hb bk hc
  rcases hk:okG wd cs with _|_
  ·rw[znb hk] at hv
   simp only[Prod.mk.injEq] at hv
   obtain⟨rfl,rfl,rfl⟩:=hv
   exact zm6 _ _ _ cs _ (h.below hb) hk hm _
  ·obtain⟨W,H,rfl,h1,h2,h3,h4,el,hH,hHI⟩:=zfG wd cs hk
   have hn:cs.length<=25:=by rw[el];exact Nat.le_trans (Nat.mul_le_mul h2 h4) qg
   exact zo9 W H _ _ cs _ (h.below hb) hk ⟨h1,h2⟩ ⟨h3,h4⟩ hn hH k bk hc x d b ((znc hk ⟨h1,h2⟩ ⟨h3,h4⟩ el hHI k).trans hv)
 clear hv
 go_enter (zfx func30),ntmps30
 go_wp2_with fail
 refine(HC.out _ bel _ qj).mono ?_
 rintro e x0 ⟨rfl,hb0⟩
 have r0:x0.cell? ⟨w.heap.size+1+1,0,none⟩=some (.int .i64 0):=zad hb0 qj
 have r1:x0.cell? ⟨w.heap.size+1+1,1,none⟩=some (.int .i64 0):=zad hb0 qj
 have f0:x0.frozen? ⟨w.heap.size+1+1,0,none⟩=false:=zal hb0 (v:=.int .i64 0) qj qj
 have f1:x0.frozen? ⟨w.heap.size+1+1,1,none⟩=false:=zal hb0 (v:=.int .i64 0) qj qj
 have hz0:=hb0.size
 simp at hz0
 have hB0:Below w.heap.size w x0:=zai bel qq hb0
 have hO:Below x0.heap.size x0 (x0.alloc (.cells #[.int .i64 x,.int .i64 d,.bool b] 83)):=(Below.refl _ _).alloc (Nat.le_refl _) _
 have hB1:=zai hB0 qg hO
 have s0:(x0.alloc (.cells #[.int .i64 x,.int .i64 d,.bool b] 83)).cell? ⟨x0.heap.size,0,none⟩=some (.int .i64 x):=qj
 have s1:(x0.alloc (.cells #[.int .i64 x,.int .i64 d,.bool b] 83)).cell? ⟨x0.heap.size,1,none⟩=some (.int .i64 d):=qj
 have s2:(x0.alloc (.cells #[.int .i64 x,.int .i64 d,.bool b] 83)).cell? ⟨x0.heap.size,2,none⟩=some (.bool b):=qj
 replace f0:=zal hO r0 f0;replace f1:=zal hO r1 f1;replace r0:=zad hO r0;replace r1:=zad hO r1
 clear hb0 hB0 hO HC
 go_wp2_with fail
 obtain⟨y,hy⟩:∃ y,y=x0.alloc (.cells #[.int .i64 x,.int .i64 d,.bool b] 83):=⟨_,rfl⟩
 rw[<- hy] at hB1 s0 s1 s2 r0 r1 f0 f1 ⊢
 clear hy
 have hne:¬ (w.heap.size+1+1=x0.heap.size):=qg
 have hne2:¬ (x0.heap.size=w.heap.size+1+1):=qg
 go_region
 all_goals
  go_wp2
  refine bodyPost_ret (v:=.tuple #[.agg #[.int .i64 x,.int .i64 d],.bool b]) (by simp[results,results30,go_sem,r0,r1]) rfl ⟨rfl,?_⟩
  first
   | exact((hB1.setCell (p:=⟨w.heap.size+1+1,0,none⟩) qq _).setCell (p:=⟨w.heap.size+1+1,1,none⟩) qq _).drew
   | exact(hB1.drew.setCell (p:=⟨w.heap.size+1+1,0,none⟩) qq _).setCell (p:=⟨w.heap.size+1+1,1,none⟩) qq _
def inS(wd:Int)(cs:List (Int × Int))(k:Int):Bool:=decide (0<=k/\k<zbU wd cs)
theorem zh7{k:Int}(h:inS wd cs k=true):okG wd cs=true:=by
 rcases hk:okG wd cs with _|_
 ·simp only[inS,zin hk,decide_eq_true_eq] at h;omega
 ·rfl
