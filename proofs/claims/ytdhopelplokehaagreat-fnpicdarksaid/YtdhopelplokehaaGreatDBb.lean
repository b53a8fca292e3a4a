/- Of the proof: NJh -/
import Derived.Test.YtdhopelplokehaaGreatDAq
import Derived.Test.YtdhopelplokehaaGreatDBa
set_option maxHeartbeats 4000000
set_option linter.unusedVariables false
namespace Go.Proofs.YtdhopelplokehaaGreat
namespace Sp.Sn
open Go.RowKit
theorem idxSide0 (W H n:Int) (w:World):Sem.run SqN.prog (Instr.index 95 (.agg (sidesA W H n)) (.int .i64 0)) w=.ok (.agg #[.int .i64 (0),.int .i64 (W),.int .i64 (0),.int .i64 (1),.int .i64 (2),.int .i64 (0)]) w:=by kernel_rfl
theorem idxSide1 (W H n:Int) (w:World):Sem.run SqN.prog (Instr.index 95 (.agg (sidesA W H n)) (.int .i64 1)) w=.ok (.agg #[.int .i64 (W),.int .i64 (H),.int .i64 (W - 1),.int .i64 (W),.int .i64 (3),.int .i64 (1)]) w:=by kernel_rfl
theorem idxSide2 (W H n:Int) (w:World):Sem.run SqN.prog (Instr.index 95 (.agg (sidesA W H n)) (.int .i64 2)) w=.ok (.agg #[.int .i64 (W + H),.int .i64 (W),.int .i64 (n - 1),.int .i64 (-1),.int .i64 (0),.int .i64 (2)]) w:=by kernel_rfl
theorem idxSide3 (W H n:Int) (w:World):Sem.run SqN.prog (Instr.index 95 (.agg (sidesA W H n)) (.int .i64 3)) w=.ok (.agg #[.int .i64 (W + H + W),.int .i64 (H),.int .i64 (n - 1 - W + 1),.int .i64 (-W),.int .i64 (1),.int .i64 (3)]) w:=by kernel_rfl
theorem goMany_ok (W H:Nat) (a:Option Addr) (cap:Nat) (cs:List (Int × Int)) (w:World) (h:CellsAt w a cs) (hok:okG (W:Int) cs=true) (hW:1<=W/\W<=5) (hH5:1<=H/\H<=5) (hn:cs.length<=25) (hH:cs.length / W=H) :
  Calls SqN.prog 42 #[.agg #[.int .i64 (W:Int),.slice a cs.length cap],.int .i64 0,.func (.func 43) #[] #[]] w fun e w'=>e=.returned (.int .i64 ((W:Int) + (H:Int) + (W:Int) + (H:Int)))/\Below w.heap.size w w':=by
 have HH:Hid (cs.length / W=H):=hH
 have hWa:=hW.1
 have hWb:=hW.2
 have hHa:=hH5.1
 have hHb:=hH5.2
 clear hH
 go_enter SqN.func42,Tryz.ntmps42
 go_wp2_with fail
 refine (implGridOk_any _ _ _ cs _ (h.below bel) (by omega)).mono ?_
 rintro e x0 ⟨rfl,hb0⟩
 have g0:x0.cell? ⟨w.heap.size,0,none⟩=some (.int .i64 (W:Int)):=keepc hb0 (by simp [go_sem])
 have g1:x0.cell? ⟨w.heap.size,1,none⟩=some (.slice a cs.length cap):=keepc hb0 (by simp [go_sem])
 have hz0:=hb0.size
 simp at hz0
 have hB0:Below w.heap.size w x0:=bcall bel (by simp) hb0
 clear hb0
 go_wp2_with fail
 refine (sidesOf_any W H a cs.length cap _ hW hH5 hn HH.out).mono ?_
 rintro e x1 ⟨rfl,hb1⟩
 have hz1:=hb1.size
 have hB1:Below w.heap.size w x1:=bcall hB0 (by omega) hb1
 clear hb1 g0 g1 HH hok h hW hH5
 have i0:=idxSide0 (W:Int) (H:Int) (cs.length:Int)
 have i1:=idxSide1 (W:Int) (H:Int) (cs.length:Int)
 have i2:=idxSide2 (W:Int) (H:Int) (cs.length:Int)
 have i3:=idxSide3 (W:Int) (H:Int) (cs.length:Int)
 go_wp2_with fail
 refine wp_loop_rounds 5 ?_
 rw [rounds_succ]
 go_wp2_with fail
 refine (tellMany_any _ _ _ _ _ _ _ (by omega) (by omega) _).mono ?_
 rintro e x2 ⟨rfl,hc2⟩
 have hz2:=hc2.size
 simp at hz2
 have hB2:Below w.heap.size w x2:=bcall (hB1.alloc (by omega) _) (by simp; omega) hc2
 clear hc2
 go_wp2_with fail
 rw [rounds_succ]
 go_wp2_with fail
 refine (tellMany_any _ _ _ _ _ _ _ (by omega) (by omega) _).mono ?_
 rintro e x3 ⟨rfl,hc3⟩
 have hz3:=hc3.size
 simp at hz3
 have hB3:Below w.heap.size w x3:=bcall (hB2.alloc (by omega) _) (by simp; omega) hc3
 clear hc3
 go_wp2_with fail
 rw [rounds_succ]
 go_wp2_with fail
 refine (tellMany_any _ _ _ _ _ _ _ (by omega) (by omega) _).mono ?_
 rintro e x4 ⟨rfl,hc4⟩
 have hz4:=hc4.size
 simp at hz4
 have hB4:Below w.heap.size w x4:=bcall (hB3.alloc (by omega) _) (by simp; omega) hc4
 clear hc4
 go_wp2_with fail
 rw [rounds_succ]
 go_wp2_with fail
 refine (tellMany_any _ _ _ _ _ _ _ (by omega) (by omega) _).mono ?_
 rintro e x5 ⟨rfl,hc5⟩
 have hz5:=hc5.size
 simp at hz5
 have hB5:Below w.heap.size w x5:=bcall (hB4.alloc (by omega) _) (by simp; omega) hc5
 clear hc5
 go_wp2_with fail
 rw [rounds_succ]
 go_wp2_with fail
 go_ret
 exact ⟨rfl,hB5⟩
end Sp.Sn
namespace Sp.Sn
open Go.RowKit
theorem tellOf_int (q f:Int) (m:Nat) (s o i u x d:Int) (bd bx:Nat) (w:World) (hf:0<=f/\f<=50) (hm:m<=5) (hs:-50<=s/\s<=50) (ho:-5<=o/\o<=5)
  (hd:w.cell? ⟨bd,0,none⟩=some (.int .i64 d)) (hx:w.cell? ⟨bx,0,none⟩=some (.int .i64 x)) (v:Int) (hv:v=if u=d then sa f s o x m else q) :
  Calls SqN.prog 131 #[.int .i64 q,.agg #[.int .i64 f,.int .i64 (m:Int),.int .i64 s,.int .i64 o,.int .i64 i,.int .i64 u],.pointer (some ⟨bd,0,none⟩),.pointer (some ⟨bx,0,none⟩)] w fun e w'=>e=.returned (.int .i64 v)/\Below w.heap.size w w':=by
 obtain ⟨F,rfl⟩:=Int.eq_ofNat_of_zero_le hf.1
 exact tellOf_any q F m s o i u x d bd bx w (by omega) hm hs ho hd hx v hv
theorem goOf_ok (W H:Nat) (a:Option Addr) (cap:Nat) (cs:List (Int × Int)) (w:World) (h:CellsAt w a cs) (hok:okG (W:Int) cs=true) (hW:1<=W/\W<=5) (hH5:1<=H/\H<=5) (hn:cs.length<=25) (hH:cs.length / W=H)
  (x d:Int) (bd bx:Nat) (hd:w.cell? ⟨bd,0,none⟩=some (.int .i64 d)) (hx:w.cell? ⟨bx,0,none⟩=some (.int .i64 x)) :
  Calls SqN.prog 42 #[.agg #[.int .i64 (W:Int),.slice a cs.length cap],.int .i64 (-1),.func (.func 131) #[] #[.pointer (some ⟨bd,0,none⟩),.pointer (some ⟨bx,0,none⟩)]] w fun e w'=>e=.returned (.int .i64 (of3 W H cs.length x d))/\Below w.heap.size w w':=by
 have HH:Hid (cs.length / W=H):=hH
 have hWa:=hW.1
 have hWb:=hW.2
 have hHa:=hH5.1
 have hHb:=hH5.2
 have hn0:0<=(cs.length:Int):=by omega
 have hnb:(cs.length:Int)<=25:=by omega
 clear hH
 obtain ⟨v0,ev0⟩:∃ v,v=of0 W x d:=⟨_,rfl⟩
 obtain ⟨v1,ev1⟩:∃ v,v=of1 W H x d:=⟨_,rfl⟩
 obtain ⟨v2,ev2⟩:∃ v,v=of2 W H cs.length x d:=⟨_,rfl⟩
 obtain ⟨v3,ev3⟩:∃ v,v=of3 W H cs.length x d:=⟨_,rfl⟩
 rw [<- ev3]
 have EV0:Hid (v0=if 0=d then sa 0 0 1 x W else -1):=ev0
 have EV1:Hid (v1=if 1=d then sa (W:Int) ((W:Int) - 1) (W:Int) x H else v0):=by show _=_; rw [ev0]; exact ev1
 have EV2:Hid (v2=if 2=d then sa ((W:Int) + (H:Int)) ((cs.length:Int) - 1) (-1) x W else v1):=by show _=_; rw [ev1]; exact ev2
 have EV3:Hid (v3=if 3=d then sa ((W:Int) + (H:Int) + (W:Int)) ((cs.length:Int) - 1 - (W:Int) + 1) (-(W:Int)) x H else v2):=by show _=_; rw [ev2]; exact ev3
 clear ev0 ev1 ev2 ev3
 go_enter SqN.func42,Tryz.ntmps42
 go_wp2_with fail
 refine (implGridOk_any _ _ _ cs _ (h.below bel) (by omega)).mono ?_
 rintro e x0 ⟨rfl,hb0⟩
 have g0:x0.cell? ⟨w.heap.size,0,none⟩=some (.int .i64 (W:Int)):=keepc hb0 (by simp [go_sem])
 have g1:x0.cell? ⟨w.heap.size,1,none⟩=some (.slice a cs.length cap):=keepc hb0 (by simp [go_sem])
 have hz0:=hb0.size
 simp at hz0
 have hB0:Below w.heap.size w x0:=bcall bel (by simp) hb0
 clear hb0
 go_wp2_with fail
 refine (sidesOf_any W H a cs.length cap _ hW hH5 hn HH.out).mono ?_
 rintro e x1 ⟨rfl,hb1⟩
 have hz1:=hb1.size
 have hB1:Below w.heap.size w x1:=bcall hB0 (by omega) hb1
 clear hb1 g0 g1 HH hok h hW hH5
 have i0:=idxSide0 (W:Int) (H:Int) (cs.length:Int)
 have i1:=idxSide1 (W:Int) (H:Int) (cs.length:Int)
 have i2:=idxSide2 (W:Int) (H:Int) (cs.length:Int)
 have i3:=idxSide3 (W:Int) (H:Int) (cs.length:Int)
 go_wp2_with fail
 refine wp_loop_rounds 5 ?_
 rw [rounds_succ]
 go_wp2_with fail
 refine (tellOf_int _ _ W _ _ _ _ x d bd bx _ (by omega) (by omega) (by omega) (by omega) ((hB1.alloc (by omega) _).cell (World.block_lt_of_cell? w _ hd) |>.trans hd) ((hB1.alloc (by omega) _).cell (World.block_lt_of_cell? w _ hx) |>.trans hx) _ EV0.out).mono ?_
 rintro e x2 ⟨rfl,hc2⟩
 have hz2:=hc2.size
 simp at hz2
 have hB2:Below w.heap.size w x2:=bcall (hB1.alloc (by omega) _) (by simp; omega) hc2
 clear hc2
 go_wp2_with fail
 rw [rounds_succ]
 go_wp2_with fail
 refine (tellOf_int _ _ H _ _ _ _ x d bd bx _ (by omega) (by omega) (by omega) (by omega) ((hB2.alloc (by omega) _).cell (World.block_lt_of_cell? w _ hd) |>.trans hd) ((hB2.alloc (by omega) _).cell (World.block_lt_of_cell? w _ hx) |>.trans hx) _ EV1.out).mono ?_
 rintro e x3 ⟨rfl,hc3⟩
 have hz3:=hc3.size
 simp at hz3
 have hB3:Below w.heap.size w x3:=bcall (hB2.alloc (by omega) _) (by simp; omega) hc3
 clear hc3
 go_wp2_with fail
 rw [rounds_succ]
 go_wp2_with fail
 refine (tellOf_int _ _ W _ _ _ _ x d bd bx _ (by omega) (by omega) (by omega) (by omega) ((hB3.alloc (by omega) _).cell (World.block_lt_of_cell? w _ hd) |>.trans hd) ((hB3.alloc (by omega) _).cell (World.block_lt_of_cell? w _ hx) |>.trans hx) _ EV2.out).mono ?_
 rintro e x4 ⟨rfl,hc4⟩
 have hz4:=hc4.size
 simp at hz4
 have hB4:Below w.heap.size w x4:=bcall (hB3.alloc (by omega) _) (by simp; omega) hc4
 clear hc4
 go_wp2_with fail
 rw [rounds_succ]
 go_wp2_with fail
 refine (tellOf_int _ _ H _ _ _ _ x d bd bx _ (by omega) (by omega) (by omega) (by omega) ((hB4.alloc (by omega) _).cell (World.block_lt_of_cell? w _ hd) |>.trans hd) ((hB4.alloc (by omega) _).cell (World.block_lt_of_cell? w _ hx) |>.trans hx) _ EV3.out).mono ?_
 rintro e x5 ⟨rfl,hc5⟩
 have hz5:=hc5.size
 simp at hz5
 have hB5:Below w.heap.size w x5:=bcall (hB4.alloc (by omega) _) (by simp; omega) hc5
 clear hc5
 go_wp2_with fail
 rw [rounds_succ]
 go_wp2_with fail
 go_ret
 exact ⟨rfl,hB5⟩
theorem goInt_bad (wd:Int) (a:Option Addr) (cap:Nat) (cs:List (Int × Int)) (w:World) (h:CellsAt w a cs) (hbad:okG wd cs=false) (hm:cs.length<=1048576) (q:Int) (t:Value) :
  Calls SqN.prog 42 #[.agg #[.int .i64 wd,.slice a cs.length cap],.int .i64 q,t] w fun e w'=>e=.returned (.int .i64 q)/\Below w.heap.size w w':=by
 go_enter SqN.func42,Tryz.ntmps42
 go_wp2_with fail
 refine (implGridOk_any _ _ _ cs _ (h.below bel) (by omega)).mono ?_
 rintro e x0 ⟨rfl,hb0⟩
 have hB0:Below w.heap.size w x0:=bcall bel (by simp) hb0
 clear hb0
 go_wp2_with fail
 go_ret
 exact ⟨rfl,hB0⟩
end Sp.Sn
namespace Sp.Sn
open Go.RowKit
theorem tellRay_int (qx qd:Int) (qb:Bool) (f:Int) (m:Nat) (s o i u k:Int) (bk:Nat) (w:World) (hf:0<=f/\f<=50) (hm:m<=5) (hs:-50<=s/\s<=50) (ho:-5<=o/\o<=5)
  (hk:w.cell? ⟨bk,0,none⟩=some (.int .i64 k)) (vx vd:Int) (vb:Bool) (hv:(vx,vd,vb)=if f<=k/\k < f + (m:Int) then (s + (k - f) * o,i,true) else (qx,qd,qb)) :
  Calls SqN.prog 102 #[.agg #[.int .i64 qx,.int .i64 qd,.bool qb],.agg #[.int .i64 f,.int .i64 (m:Int),.int .i64 s,.int .i64 o,.int .i64 i,.int .i64 u],.pointer (some ⟨bk,0,none⟩)] w fun e w'=>e=.returned (.agg #[.int .i64 vx,.int .i64 vd,.bool vb])/\Below w.heap.size w w':=by
 obtain ⟨F,rfl⟩:=Int.eq_ofNat_of_zero_le hf.1
 exact tellRay_any qx qd qb F m s o i u k bk w (by omega) hm hs ho hk vx vd vb hv
theorem goRay_ok (W H:Nat) (a:Option Addr) (cap:Nat) (cs:List (Int × Int)) (w:World) (h:CellsAt w a cs) (hok:okG (W:Int) cs=true) (hW:1<=W/\W<=5) (hH5:1<=H/\H<=5) (hn:cs.length<=25) (hH:cs.length / W=H)
  (k:Int) (bk:Nat) (hk:w.cell? ⟨bk,0,none⟩=some (.int .i64 k)) (a3 b3:Int) (c3:Bool) (hv:in3 W H cs.length k=(a3,b3,c3)) :
  Calls SqN.prog 101 #[.agg #[.int .i64 (W:Int),.slice a cs.length cap],.agg #[.int .i64 0,.int .i64 0,.bool false],.func (.func 102) #[] #[.pointer (some ⟨bk,0,none⟩)]] w fun e w'=>e=.returned (.agg #[.int .i64 a3,.int .i64 b3,.bool c3])/\Below w.heap.size w w':=by
 have HH:Hid (cs.length / W=H):=hH
 have hWa:=hW.1
 have hWb:=hW.2
 have hHa:=hH5.1
 have hHb:=hH5.2
 have hn0:0<=(cs.length:Int):=by omega
 have hnb:(cs.length:Int)<=25:=by omega
 clear hH
 obtain ⟨a0,b0,c0,ev0⟩:∃ a b c,in0 W k=(a,b,c):=⟨_,_,_,rfl⟩
 obtain ⟨a1,b1,c1,ev1⟩:∃ a b c,in1 W H k=(a,b,c):=⟨_,_,_,rfl⟩
 obtain ⟨a2,b2,c2,ev2⟩:∃ a b c,in2 W H cs.length k=(a,b,c):=⟨_,_,_,rfl⟩
 have EV0:Hid ((a0,b0,c0)=if 0<=k/\k < 0 + (W:Int) then (0 + (k - 0) * 1,2,true) else (0,0,false)):=ev0.symm
 have EV1:Hid ((a1,b1,c1)=if (W:Int)<=k/\k < (W:Int) + (H:Int) then ((W:Int) - 1 + (k - (W:Int)) * (W:Int),3,true) else (a0,b0,c0)):=by show _=_; rw [<- ev0]; exact ev1.symm
 have EV2:Hid ((a2,b2,c2)=if (W:Int) + (H:Int)<=k/\k < (W:Int) + (H:Int) + (W:Int) then ((cs.length:Int) - 1 + (k - ((W:Int) + (H:Int))) * (-1),0,true) else (a1,b1,c1)):=by show _=_; rw [<- ev1]; exact ev2.symm
 have EV3:Hid ((a3,b3,c3)=if (W:Int) + (H:Int) + (W:Int)<=k/\k < (W:Int) + (H:Int) + (W:Int) + (H:Int) then ((cs.length:Int) - 1 - (W:Int) + 1 + (k - ((W:Int) + (H:Int) + (W:Int))) * (-(W:Int)),1,true) else (a2,b2,c2)):=by show _=_; rw [<- ev2]; exact hv.symm
 clear ev0 ev1 ev2 hv
 go_enter SqN.func101,Tryz.ntmps101
 go_wp2_with fail
 refine (implGridOk_any _ _ _ cs _ (h.below bel) (by omega)).mono ?_
 rintro e x0 ⟨rfl,hb0⟩
 have g0:x0.cell? ⟨w.heap.size,0,none⟩=some (.int .i64 (W:Int)):=keepc hb0 (by simp [go_sem])
 have g1:x0.cell? ⟨w.heap.size,1,none⟩=some (.slice a cs.length cap):=keepc hb0 (by simp [go_sem])
 have q0:x0.cell? ⟨w.heap.size + 1,0,none⟩=some (.int .i64 0):=keepc hb0 (by simp [go_sem])
 have q1:x0.cell? ⟨w.heap.size + 1,1,none⟩=some (.int .i64 0):=keepc hb0 (by simp [go_sem])
 have q2:x0.cell? ⟨w.heap.size + 1,2,none⟩=some (.bool false):=keepc hb0 (by simp [go_sem])
 have r0:x0.cell? ⟨w.heap.size + 1 + 1,0,none⟩=some (.int .i64 0):=keepc hb0 (by simp [go_sem])
 have r1:x0.cell? ⟨w.heap.size + 1 + 1,1,none⟩=some (.int .i64 0):=keepc hb0 (by simp [go_sem])
 have r2:x0.cell? ⟨w.heap.size + 1 + 1,2,none⟩=some (.bool false):=keepc hb0 (by simp [go_sem])
 have f0:x0.frozen? ⟨w.heap.size + 1,0,none⟩=false:=keepf hb0 (v:=.int .i64 0) (by simp [go_sem]) (by simp [go_sem])
 have f1:x0.frozen? ⟨w.heap.size + 1,1,none⟩=false:=keepf hb0 (v:=.int .i64 0) (by simp [go_sem]) (by simp [go_sem])
 have f2:x0.frozen? ⟨w.heap.size + 1,2,none⟩=false:=keepf hb0 (v:=.bool false) (by simp [go_sem]) (by simp [go_sem])
 have e0:x0.frozen? ⟨w.heap.size + 1 + 1,0,none⟩=false:=keepf hb0 (v:=.int .i64 0) (by simp [go_sem]) (by simp [go_sem])
 have e1:x0.frozen? ⟨w.heap.size + 1 + 1,1,none⟩=false:=keepf hb0 (v:=.int .i64 0) (by simp [go_sem]) (by simp [go_sem])
 have e2:x0.frozen? ⟨w.heap.size + 1 + 1,2,none⟩=false:=keepf hb0 (v:=.bool false) (by simp [go_sem]) (by simp [go_sem])
 have hz0:=hb0.size
 simp at hz0
 have hB0:Below w.heap.size w x0:=bcall bel (by simp <;> omega) hb0
 clear hb0
 go_wp2_with fail
 refine (sidesOf_any W H a cs.length cap _ hW hH5 hn HH.out).mono ?_
 rintro e x1 ⟨rfl,hb1⟩
 have hz1:=hb1.size
 have hB1:Below w.heap.size w x1:=bcall hB0 (by omega) hb1
 replace f0:=keepf hb1 q0 f0; replace f1:=keepf hb1 q1 f1; replace f2:=keepf hb1 q2 f2; replace e0:=keepf hb1 r0 e0; replace e1:=keepf hb1 r1 e1; replace e2:=keepf hb1 r2 e2; replace q0:=keepc hb1 q0; replace q1:=keepc hb1 q1; replace q2:=keepc hb1 q2; replace r0:=keepc hb1 r0; replace r1:=keepc hb1 r1; replace r2:=keepc hb1 r2
 clear hb1 g0 g1 HH hok h hW hH5
 have i0:=idxSide0 (W:Int) (H:Int) (cs.length:Int)
 have i1:=idxSide1 (W:Int) (H:Int) (cs.length:Int)
 have i2:=idxSide2 (W:Int) (H:Int) (cs.length:Int)
 have i3:=idxSide3 (W:Int) (H:Int) (cs.length:Int)
 go_wp2_with fail
 refine wp_loop_rounds 5 ?_
 have hO0:Below x1.heap.size x1 (x1.alloc (.cells #[.int .i64 (0),.int .i64 ((W:Int)),.int .i64 (0),.int .i64 (1),.int .i64 (2),.int .i64 (0)] 65)):=(Below.refl _ _).alloc (Nat.le_refl _) _
 have s0:=keepc hO0 q0
 have s1:=keepc hO0 q1
 have s2:=keepc hO0 q2
 clear hO0
 rw [rounds_succ]
 go_wp2_with fail
 clear s0 s1 s2
 refine (tellRay_int _ _ _ _ W _ _ _ _ k bk _ (by omega) (by omega) (by omega) (by omega) ((hB1.alloc (by omega) _).cell (World.block_lt_of_cell? w _ hk) |>.trans hk) _ _ _ EV0.out).mono ?_
 rintro e x2 ⟨rfl,hc2⟩
 have hz2:=hc2.size
 simp at hz2
 have hB2:Below w.heap.size w x2:=bcall (hB1.alloc (by omega) _) (by simp; omega) hc2
 have hA0:Below x1.heap.size x1 x2:=bcall ((Below.refl _ _).alloc (Nat.le_refl _) _) (by simp) hc2
 replace f0:=keepf hA0 q0 f0; replace f1:=keepf hA0 q1 f1; replace f2:=keepf hA0 q2 f2; replace e0:=keepf hA0 r0 e0; replace e1:=keepf hA0 r1 e1; replace e2:=keepf hA0 r2 e2; replace q0:=keepc hA0 q0; replace q1:=keepc hA0 q1; replace q2:=keepc hA0 q2; replace r0:=keepc hA0 r0; replace r1:=keepc hA0 r1; replace r2:=keepc hA0 r2
 clear hc2 hA0
 go_wp2_with fail
 obtain ⟨y1,hy1⟩:∃ y,y=((x2.setCell ⟨w.heap.size + 1,0,none⟩ (.int .i64 a0)).setCell ⟨w.heap.size + 1,1,none⟩ (.int .i64 b0)).setCell ⟨w.heap.size + 1,2,none⟩ (.bool c0):=⟨_,rfl⟩
 rw [<- hy1]
 have hY1:Below w.heap.size w y1:=by
  rw [hy1]
  exact ((hB2.setCell (p:=⟨w.heap.size + 1,0,none⟩) (by simp) _).setCell (p:=⟨w.heap.size + 1,1,none⟩) (by simp) _).setCell (p:=⟨w.heap.size + 1,2,none⟩) (by simp) _
 have hZ1:x2.heap.size<=y1.heap.size:=by rw [hy1]; simp [go_sem]
 have q0':y1.cell? ⟨w.heap.size + 1,0,none⟩=some (.int .i64 a0):=by rw [hy1]; simp [go_sem,q0]
 have q1':y1.cell? ⟨w.heap.size + 1,1,none⟩=some (.int .i64 b0):=by rw [hy1]; simp [go_sem,q1]
 have q2':y1.cell? ⟨w.heap.size + 1,2,none⟩=some (.bool c0):=by rw [hy1]; simp [go_sem,q2]
 have r0':y1.cell? ⟨w.heap.size + 1 + 1,0,none⟩=some (.int .i64 0):=by rw [hy1]; simp [go_sem,r0]
 have r1':y1.cell? ⟨w.heap.size + 1 + 1,1,none⟩=some (.int .i64 0):=by rw [hy1]; simp [go_sem,r1]
 have r2':y1.cell? ⟨w.heap.size + 1 + 1,2,none⟩=some (.bool false):=by rw [hy1]; simp [go_sem,r2]
 have f0':y1.frozen? ⟨w.heap.size + 1,0,none⟩=false:=by rw [hy1]; simp [go_sem,f0]
 have f1':y1.frozen? ⟨w.heap.size + 1,1,none⟩=false:=by rw [hy1]; simp [go_sem,f1]
 have f2':y1.frozen? ⟨w.heap.size + 1,2,none⟩=false:=by rw [hy1]; simp [go_sem,f2]
 have e0':y1.frozen? ⟨w.heap.size + 1 + 1,0,none⟩=false:=by rw [hy1]; simp [go_sem,e0]
 have e1':y1.frozen? ⟨w.heap.size + 1 + 1,1,none⟩=false:=by rw [hy1]; simp [go_sem,e1]
 have e2':y1.frozen? ⟨w.heap.size + 1 + 1,2,none⟩=false:=by rw [hy1]; simp [go_sem,e2]
 clear q0 q1 q2 r0 r1 r2 f0 f1 f2 e0 e1 e2 hy1 hB2
 have q0:=q0'
 have q1:=q1'
 have q2:=q2'
 have r0:=r0'
 have r1:=r1'
 have r2:=r2'
 have f0:=f0'
 have f1:=f1'
 have f2:=f2'
 have e0:=e0'
 have e1:=e1'
 have e2:=e2'
 clear q0' q1' q2' r0' r1' r2' f0' f1' f2' e0' e1' e2'
 have hO1:Below y1.heap.size y1 (y1.alloc (.cells #[.int .i64 ((W:Int)),.int .i64 ((H:Int)),.int .i64 ((W:Int) - 1),.int .i64 ((W:Int)),.int .i64 (3),.int .i64 (1)] 65)):=(Below.refl _ _).alloc (Nat.le_refl _) _
 have s0:=keepc hO1 q0
 have s1:=keepc hO1 q1
 have s2:=keepc hO1 q2
 clear hO1
 rw [rounds_succ]
 go_wp2_with fail
 clear s0 s1 s2
 refine (tellRay_int _ _ _ _ H _ _ _ _ k bk _ (by omega) (by omega) (by omega) (by omega) ((hY1.alloc (by omega) _).cell (World.block_lt_of_cell? w _ hk) |>.trans hk) _ _ _ EV1.out).mono ?_
 rintro e x3 ⟨rfl,hc3⟩
 have hz3:=hc3.size
 simp at hz3
 have hB3:Below w.heap.size w x3:=bcall (hY1.alloc (by omega) _) (by simp; omega) hc3
 have hA1:Below y1.heap.size y1 x3:=bcall ((Below.refl _ _).alloc (Nat.le_refl _) _) (by simp) hc3
 replace f0:=keepf hA1 q0 f0; replace f1:=keepf hA1 q1 f1; replace f2:=keepf hA1 q2 f2; replace e0:=keepf hA1 r0 e0; replace e1:=keepf hA1 r1 e1; replace e2:=keepf hA1 r2 e2; replace q0:=keepc hA1 q0; replace q1:=keepc hA1 q1; replace q2:=keepc hA1 q2; replace r0:=keepc hA1 r0; replace r1:=keepc hA1 r1; replace r2:=keepc hA1 r2
 clear hc3 hA1
 go_wp2_with fail
 obtain ⟨y2,hy2⟩:∃ y,y=((x3.setCell ⟨w.heap.size + 1,0,none⟩ (.int .i64 a1)).setCell ⟨w.heap.size + 1,1,none⟩ (.int .i64 b1)).setCell ⟨w.heap.size + 1,2,none⟩ (.bool c1):=⟨_,rfl⟩
 rw [<- hy2]
 have hY2:Below w.heap.size w y2:=by
  rw [hy2]
  exact ((hB3.setCell (p:=⟨w.heap.size + 1,0,none⟩) (by simp) _).setCell (p:=⟨w.heap.size + 1,1,none⟩) (by simp) _).setCell (p:=⟨w.heap.size + 1,2,none⟩) (by simp) _
 have hZ2:x3.heap.size<=y2.heap.size:=by rw [hy2]; simp [go_sem]
 have q0':y2.cell? ⟨w.heap.size + 1,0,none⟩=some (.int .i64 a1):=by rw [hy2]; simp [go_sem,q0]
 have q1':y2.cell? ⟨w.heap.size + 1,1,none⟩=some (.int .i64 b1):=by rw [hy2]; simp [go_sem,q1]
 have q2':y2.cell? ⟨w.heap.size + 1,2,none⟩=some (.bool c1):=by rw [hy2]; simp [go_sem,q2]
 have r0':y2.cell? ⟨w.heap.size + 1 + 1,0,none⟩=some (.int .i64 0):=by rw [hy2]; simp [go_sem,r0]
 have r1':y2.cell? ⟨w.heap.size + 1 + 1,1,none⟩=some (.int .i64 0):=by rw [hy2]; simp [go_sem,r1]
 have r2':y2.cell? ⟨w.heap.size + 1 + 1,2,none⟩=some (.bool false):=by rw [hy2]; simp [go_sem,r2]
 have f0':y2.frozen? ⟨w.heap.size + 1,0,none⟩=false:=by rw [hy2]; simp [go_sem,f0]
 have f1':y2.frozen? ⟨w.heap.size + 1,1,none⟩=false:=by rw [hy2]; simp [go_sem,f1]
 have f2':y2.frozen? ⟨w.heap.size + 1,2,none⟩=false:=by rw [hy2]; simp [go_sem,f2]
 have e0':y2.frozen? ⟨w.heap.size + 1 + 1,0,none⟩=false:=by rw [hy2]; simp [go_sem,e0]
 have e1':y2.frozen? ⟨w.heap.size + 1 + 1,1,none⟩=false:=by rw [hy2]; simp [go_sem,e1]
 have e2':y2.frozen? ⟨w.heap.size + 1 + 1,2,none⟩=false:=by rw [hy2]; simp [go_sem,e2]
 clear q0 q1 q2 r0 r1 r2 f0 f1 f2 e0 e1 e2 hy2 hB3
 have q0:=q0'
 have q1:=q1'
 have q2:=q2'
 have r0:=r0'
 have r1:=r1'
 have r2:=r2'
 have f0:=f0'
 have f1:=f1'
 have f2:=f2'
 have e0:=e0'
 have e1:=e1'
 have e2:=e2'
 clear q0' q1' q2' r0' r1' r2' f0' f1' f2' e0' e1' e2'
 have hO2:Below y2.heap.size y2 (y2.alloc (.cells #[.int .i64 ((W:Int) + (H:Int)),.int .i64 ((W:Int)),.int .i64 ((cs.length:Int) - 1),.int .i64 (-1),.int .i64 (0),.int .i64 (2)] 65)):=(Below.refl _ _).alloc (Nat.le_refl _) _
 have s0:=keepc hO2 q0
 have s1:=keepc hO2 q1
 have s2:=keepc hO2 q2
 clear hO2
 rw [rounds_succ]
 go_wp2_with fail
 clear s0 s1 s2
 refine (tellRay_int _ _ _ _ W _ _ _ _ k bk _ (by omega) (by omega) (by omega) (by omega) ((hY2.alloc (by omega) _).cell (World.block_lt_of_cell? w _ hk) |>.trans hk) _ _ _ EV2.out).mono ?_
 rintro e x4 ⟨rfl,hc4⟩
 have hz4:=hc4.size
 simp at hz4
 have hB4:Below w.heap.size w x4:=bcall (hY2.alloc (by omega) _) (by simp; omega) hc4
 have hA2:Below y2.heap.size y2 x4:=bcall ((Below.refl _ _).alloc (Nat.le_refl _) _) (by simp) hc4
 replace f0:=keepf hA2 q0 f0; replace f1:=keepf hA2 q1 f1; replace f2:=keepf hA2 q2 f2; replace e0:=keepf hA2 r0 e0; replace e1:=keepf hA2 r1 e1; replace e2:=keepf hA2 r2 e2; replace q0:=keepc hA2 q0; replace q1:=keepc hA2 q1; replace q2:=keepc hA2 q2; replace r0:=keepc hA2 r0; replace r1:=keepc hA2 r1; replace r2:=keepc hA2 r2
 clear hc4 hA2
 go_wp2_with fail
 obtain ⟨y3,hy3⟩:∃ y,y=((x4.setCell ⟨w.heap.size + 1,0,none⟩ (.int .i64 a2)).setCell ⟨w.heap.size + 1,1,none⟩ (.int .i64 b2)).setCell ⟨w.heap.size + 1,2,none⟩ (.bool c2):=⟨_,rfl⟩
 rw [<- hy3]
 have hY3:Below w.heap.size w y3:=by
  rw [hy3]
  exact ((hB4.setCell (p:=⟨w.heap.size + 1,0,none⟩) (by simp) _).setCell (p:=⟨w.heap.size + 1,1,none⟩) (by simp) _).setCell (p:=⟨w.heap.size + 1,2,none⟩) (by simp) _
 have hZ3:x4.heap.size<=y3.heap.size:=by rw [hy3]; simp [go_sem]
 have q0':y3.cell? ⟨w.heap.size + 1,0,none⟩=some (.int .i64 a2):=by rw [hy3]; simp [go_sem,q0]
 have q1':y3.cell? ⟨w.heap.size + 1,1,none⟩=some (.int .i64 b2):=by rw [hy3]; simp [go_sem,q1]
 have q2':y3.cell? ⟨w.heap.size + 1,2,none⟩=some (.bool c2):=by rw [hy3]; simp [go_sem,q2]
 have r0':y3.cell? ⟨w.heap.size + 1 + 1,0,none⟩=some (.int .i64 0):=by rw [hy3]; simp [go_sem,r0]
 have r1':y3.cell? ⟨w.heap.size + 1 + 1,1,none⟩=some (.int .i64 0):=by rw [hy3]; simp [go_sem,r1]
 have r2':y3.cell? ⟨w.heap.size + 1 + 1,2,none⟩=some (.bool false):=by rw [hy3]; simp [go_sem,r2]
 have f0':y3.frozen? ⟨w.heap.size + 1,0,none⟩=false:=by rw [hy3]; simp [go_sem,f0]
 have f1':y3.frozen? ⟨w.heap.size + 1,1,none⟩=false:=by rw [hy3]; simp [go_sem,f1]
 have f2':y3.frozen? ⟨w.heap.size + 1,2,none⟩=false:=by rw [hy3]; simp [go_sem,f2]
 have e0':y3.frozen? ⟨w.heap.size + 1 + 1,0,none⟩=false:=by rw [hy3]; simp [go_sem,e0]
 have e1':y3.frozen? ⟨w.heap.size + 1 + 1,1,none⟩=false:=by rw [hy3]; simp [go_sem,e1]
 have e2':y3.frozen? ⟨w.heap.size + 1 + 1,2,none⟩=false:=by rw [hy3]; simp [go_sem,e2]
 clear q0 q1 q2 r0 r1 r2 f0 f1 f2 e0 e1 e2 hy3 hB4
 have q0:=q0'
 have q1:=q1'
 have q2:=q2'
 have r0:=r0'
 have r1:=r1'
 have r2:=r2'
 have f0:=f0'
 have f1:=f1'
 have f2:=f2'
 have e0:=e0'
 have e1:=e1'
 have e2:=e2'
 clear q0' q1' q2' r0' r1' r2' f0' f1' f2' e0' e1' e2'
 have hO3:Below y3.heap.size y3 (y3.alloc (.cells #[.int .i64 ((W:Int) + (H:Int) + (W:Int)),.int .i64 ((H:Int)),.int .i64 ((cs.length:Int) - 1 - (W:Int) + 1),.int .i64 (-(W:Int)),.int .i64 (1),.int .i64 (3)] 65)):=(Below.refl _ _).alloc (Nat.le_refl _) _
 have s0:=keepc hO3 q0
 have s1:=keepc hO3 q1
 have s2:=keepc hO3 q2
 clear hO3
 rw [rounds_succ]
 go_wp2_with fail
 clear s0 s1 s2
 refine (tellRay_int _ _ _ _ H _ _ _ _ k bk _ (by omega) (by omega) (by omega) (by omega) ((hY3.alloc (by omega) _).cell (World.block_lt_of_cell? w _ hk) |>.trans hk) _ _ _ EV3.out).mono ?_
 rintro e x5 ⟨rfl,hc5⟩
 have hz5:=hc5.size
 simp at hz5
 have hB5:Below w.heap.size w x5:=bcall (hY3.alloc (by omega) _) (by simp; omega) hc5
 have hA3:Below y3.heap.size y3 x5:=bcall ((Below.refl _ _).alloc (Nat.le_refl _) _) (by simp) hc5
 replace f0:=keepf hA3 q0 f0; replace f1:=keepf hA3 q1 f1; replace f2:=keepf hA3 q2 f2; replace e0:=keepf hA3 r0 e0; replace e1:=keepf hA3 r1 e1; replace e2:=keepf hA3 r2 e2; replace q0:=keepc hA3 q0; replace q1:=keepc hA3 q1; replace q2:=keepc hA3 q2; replace r0:=keepc hA3 r0; replace r1:=keepc hA3 r1; replace r2:=keepc hA3 r2
 clear hc5 hA3
 go_wp2_with fail
 obtain ⟨y4,hy4⟩:∃ y,y=((x5.setCell ⟨w.heap.size + 1,0,none⟩ (.int .i64 a3)).setCell ⟨w.heap.size + 1,1,none⟩ (.int .i64 b3)).setCell ⟨w.heap.size + 1,2,none⟩ (.bool c3):=⟨_,rfl⟩
 rw [<- hy4]
 have hY4:Below w.heap.size w y4:=by
  rw [hy4]
  exact ((hB5.setCell (p:=⟨w.heap.size + 1,0,none⟩) (by simp) _).setCell (p:=⟨w.heap.size + 1,1,none⟩) (by simp) _).setCell (p:=⟨w.heap.size + 1,2,none⟩) (by simp) _
 have hZ4:x5.heap.size<=y4.heap.size:=by rw [hy4]; simp [go_sem]
 have q0':y4.cell? ⟨w.heap.size + 1,0,none⟩=some (.int .i64 a3):=by rw [hy4]; simp [go_sem,q0]
 have q1':y4.cell? ⟨w.heap.size + 1,1,none⟩=some (.int .i64 b3):=by rw [hy4]; simp [go_sem,q1]
 have q2':y4.cell? ⟨w.heap.size + 1,2,none⟩=some (.bool c3):=by rw [hy4]; simp [go_sem,q2]
 have r0':y4.cell? ⟨w.heap.size + 1 + 1,0,none⟩=some (.int .i64 0):=by rw [hy4]; simp [go_sem,r0]
 have r1':y4.cell? ⟨w.heap.size + 1 + 1,1,none⟩=some (.int .i64 0):=by rw [hy4]; simp [go_sem,r1]
 have r2':y4.cell? ⟨w.heap.size + 1 + 1,2,none⟩=some (.bool false):=by rw [hy4]; simp [go_sem,r2]
 have f0':y4.frozen? ⟨w.heap.size + 1,0,none⟩=false:=by rw [hy4]; simp [go_sem,f0]
 have f1':y4.frozen? ⟨w.heap.size + 1,1,none⟩=false:=by rw [hy4]; simp [go_sem,f1]
 have f2':y4.frozen? ⟨w.heap.size + 1,2,none⟩=false:=by rw [hy4]; simp [go_sem,f2]
 have e0':y4.frozen? ⟨w.heap.size + 1 + 1,0,none⟩=false:=by rw [hy4]; simp [go_sem,e0]
 have e1':y4.frozen? ⟨w.heap.size + 1 + 1,1,none⟩=false:=by rw [hy4]; simp [go_sem,e1]
 have e2':y4.frozen? ⟨w.heap.size + 1 + 1,2,none⟩=false:=by rw [hy4]; simp [go_sem,e2]
 clear q0 q1 q2 r0 r1 r2 f0 f1 f2 e0 e1 e2 hy4 hB5
 have q0:=q0'
 have q1:=q1'
 have q2:=q2'
 have r0:=r0'
 have r1:=r1'
 have r2:=r2'
 have f0:=f0'
 have f1:=f1'
 have f2:=f2'
 have e0:=e0'
 have e1:=e1'
 have e2:=e2'
 clear q0' q1' q2' r0' r1' r2' f0' f1' f2' e0' e1' e2'
 rw [rounds_succ]
 go_wp2_with fail
 refine bodyPost_ret (v:=.agg #[.int .i64 a3,.int .i64 b3,.bool c3]) (by simp [results,Tryz.results101,go_sem,r0,r1,r2]) rfl ⟨rfl,?_⟩
 repeat (refine Below.setCell ?_ (by simp <;> omega) _)
 exact hY4
theorem goRay_bad (wd:Int) (a:Option Addr) (cap:Nat) (cs:List (Int × Int)) (w:World) (h:CellsAt w a cs) (hbad:okG wd cs=false) (hm:cs.length<=1048576) (t:Value) :
  Calls SqN.prog 101 #[.agg #[.int .i64 wd,.slice a cs.length cap],.agg #[.int .i64 0,.int .i64 0,.bool false],t] w fun e w'=>e=.returned (.agg #[.int .i64 0,.int .i64 0,.bool false])/\Below w.heap.size w w':=by
 go_enter SqN.func101,Tryz.ntmps101
 go_wp2_with fail
 refine (implGridOk_any _ _ _ cs _ (h.below bel) (by omega)).mono ?_
 rintro e x0 ⟨rfl,hb0⟩
 have q0:x0.cell? ⟨w.heap.size + 1,0,none⟩=some (.int .i64 0):=keepc hb0 (by simp [go_sem])
 have q1:x0.cell? ⟨w.heap.size + 1,1,none⟩=some (.int .i64 0):=keepc hb0 (by simp [go_sem])
 have q2:x0.cell? ⟨w.heap.size + 1,2,none⟩=some (.bool false):=keepc hb0 (by simp [go_sem])
 have r0:x0.cell? ⟨w.heap.size + 1 + 1,0,none⟩=some (.int .i64 0):=keepc hb0 (by simp [go_sem])
 have r1:x0.cell? ⟨w.heap.size + 1 + 1,1,none⟩=some (.int .i64 0):=keepc hb0 (by simp [go_sem])
 have r2:x0.cell? ⟨w.heap.size + 1 + 1,2,none⟩=some (.bool false):=keepc hb0 (by simp [go_sem])
 have e0:x0.frozen? ⟨w.heap.size + 1 + 1,0,none⟩=false:=keepf hb0 (v:=.int .i64 0) (by simp [go_sem]) (by simp [go_sem])
 have e1:x0.frozen? ⟨w.heap.size + 1 + 1,1,none⟩=false:=keepf hb0 (v:=.int .i64 0) (by simp [go_sem]) (by simp [go_sem])
 have e2:x0.frozen? ⟨w.heap.size + 1 + 1,2,none⟩=false:=keepf hb0 (v:=.bool false) (by simp [go_sem]) (by simp [go_sem])
 have hB0:Below w.heap.size w x0:=bcall bel (by simp <;> omega) hb0
 clear hb0
 go_wp2_with fail
 refine bodyPost_ret (v:=.agg #[.int .i64 0,.int .i64 0,.bool false]) (by simp [results,Tryz.results101,go_sem,r0,r1,r2]) rfl ⟨rfl,?_⟩
 repeat (refine Below.setCell ?_ (by simp <;> omega) _)
 exact hB0
end Sp.Sn
namespace Sp.Sn
open Go.RowKit
end Sp.Sn
namespace Sp.Sn
open Go.RowKit
theorem implMany_any (wd:Int) (a:Option Addr) (cap:Nat) (cs:List (Int × Int)) (w:World) (h:CellsAt w a cs) (hm:cs.length<=1048576) :
  Calls SqN.prog 16 #[.agg #[.int .i64 wd,.slice a cs.length cap]] w fun e w'=>e=.returned (.int .i64 (manyG wd cs))/\Below w.heap.size w w':=by
 rcases hk:okG wd cs with _ | _
 ·rw [manyG_bad hk]
  go_enter SqN.func16,Tryz.ntmps16
  go_wp2_with fail
  refine (goInt_bad _ _ _ cs _ (h.below bel) hk hm _ _).mono ?_
  rintro e x0 ⟨rfl,hb0⟩
  go_wp2_with fail
  go_ret
  exact ⟨rfl,bcall bel (by simp) hb0⟩
 ·obtain ⟨W,H,rfl,h1,h2,h3,h4,el,hH,hHI⟩:=okG_nat wd cs hk
  have hn:cs.length<=25:=by rw [el]; exact Nat.le_trans (Nat.mul_le_mul h2 h4) (by omega)
  have EL:Hid (cs.length=W * H):=el
  have HH:Hid (cs.length / W=H):=hH
  have HI:Hid ((cs.length:Int) / (W:Int)=(H:Int)):=hHI
  clear el hH hHI
  obtain ⟨M,hM⟩:∃ M,manyG (W:Int) cs=M:=⟨_,rfl⟩
  rw [hM]
  have EM:Hid ((W:Int) + (H:Int) + (W:Int) + (H:Int)=M):=by show _=_; rw [<- hM,manyG_ok hk HI.out]; omega
  clear hM
  go_enter SqN.func16,Tryz.ntmps16
  go_wp2_with fail
  refine (goMany_ok W H _ _ cs _ (h.below bel) hk ⟨h1,h2⟩ ⟨h3,h4⟩ hn HH.out).mono ?_
  rintro e x0 ⟨rfl,hb0⟩
  rw [EM.out]
  go_wp2_with fail
  go_ret
  exact ⟨rfl,bcall bel (by simp) hb0⟩
theorem implOf_any (wd:Int) (a:Option Addr) (cap:Nat) (cs:List (Int × Int)) (w:World) (h:CellsAt w a cs) (hm:cs.length<=1048576) (x d:Int) :
  Calls SqN.prog 109 #[.agg #[.int .i64 wd,.slice a cs.length cap],.int .i64 x,.int .i64 d] w fun e w'=>e=.returned (.int .i64 (outOf wd cs x d))/\Below w.heap.size w w':=by
 rcases hk:okG wd cs with _ | _
 ·rw [outOf_bad hk]
  go_enter SqN.func109,Tryz.ntmps109
  go_wp2_with fail
  refine (goInt_bad _ _ _ cs _ (h.below bel) hk hm _ _).mono ?_
  rintro e x0 ⟨rfl,hb0⟩
  go_wp2_with fail
  go_ret
  exact ⟨rfl,bcall bel (by simp <;> omega) hb0⟩
 ·obtain ⟨W,H,rfl,h1,h2,h3,h4,el,hH,hHI⟩:=okG_nat wd cs hk
  have hn:cs.length<=25:=by rw [el]; exact Nat.le_trans (Nat.mul_le_mul h2 h4) (by omega)
  have EL:Hid (cs.length=W * H):=el
  have HH:Hid (cs.length / W=H):=hH
  have HI:Hid ((cs.length:Int) / (W:Int)=(H:Int)):=hHI
  clear el hH hHI
  obtain ⟨v,hv⟩:∃ v,outOf (W:Int) cs x d=v:=⟨_,rfl⟩
  rw [hv]
  have EV:Hid (of3 W H cs.length x d=v):=(outOf_of3 hk ⟨h1,h2⟩ ⟨h3,h4⟩ EL.out HI.out x d).trans hv
  clear hv
  go_enter SqN.func109,Tryz.ntmps109
  go_wp2_with fail
  refine (goOf_ok W H _ _ cs _ (h.below bel) hk ⟨h1,h2⟩ ⟨h3,h4⟩ hn HH.out x d _ _ (by simp [go_sem]) (by simp [go_sem])).mono ?_
  rintro e x0 ⟨rfl,hb0⟩
  rw [EV.out]
  go_wp2_with fail
  go_ret
  exact ⟨rfl,bcall bel (by simp <;> omega) hb0⟩
theorem implRay_any (wd:Int) (a:Option Addr) (cap:Nat) (cs:List (Int × Int)) (w:World) (h:CellsAt w a cs) (hm:cs.length<=1048576) (k x d:Int) (b:Bool) (hv:inRay wd cs k=(x,d,b)) :
  Calls SqN.prog 67 #[.agg #[.int .i64 wd,.slice a cs.length cap],.int .i64 k] w fun e w'=>e=.returned (.tuple #[.agg #[.int .i64 x,.int .i64 d],.bool b])/\Below w.heap.size w w':=by
 have HC:Hid (∀ w',Below w.heap.size w w'->∀ bk,w'.cell? ⟨bk,0,none⟩=some (.int .i64 k)->Calls SqN.prog 101 #[.agg #[.int .i64 wd,.slice a cs.length cap],.agg #[.int .i64 0,.int .i64 0,.bool false],.func (.func 102) #[] #[.pointer (some ⟨bk,0,none⟩)]] w' fun e w''=>e=.returned (.agg #[.int .i64 x,.int .i64 d,.bool b])/\Below w'.heap.size w' w''):=by
  intro w' hb bk hc
  rcases hk:okG wd cs with _ | _
  ·rw [inRay_bad hk] at hv
   simp only [Prod.mk.injEq] at hv
   obtain ⟨rfl,rfl,rfl⟩:=hv
   exact goRay_bad _ _ _ cs _ (h.below hb) hk hm _
  ·obtain ⟨W,H,rfl,h1,h2,h3,h4,el,hH,hHI⟩:=okG_nat wd cs hk
   have hn:cs.length<=25:=by rw [el]; exact Nat.le_trans (Nat.mul_le_mul h2 h4) (by omega)
   exact goRay_ok W H _ _ cs _ (h.below hb) hk ⟨h1,h2⟩ ⟨h3,h4⟩ hn hH k bk hc x d b ((inRay_in3 hk ⟨h1,h2⟩ ⟨h3,h4⟩ el hHI k).trans hv)
 clear hv
 go_enter SqN.func67,Tryz.ntmps67
 go_wp2_with fail
 refine (HC.out _ bel _ (by simp [go_sem])).mono ?_
 rintro e x0 ⟨rfl,hb0⟩
 have r0:x0.cell? ⟨w.heap.size + 1 + 1,0,none⟩=some (.int .i64 0):=keepc hb0 (by simp [go_sem])
 have r1:x0.cell? ⟨w.heap.size + 1 + 1,1,none⟩=some (.int .i64 0):=keepc hb0 (by simp [go_sem])
 have f0:x0.frozen? ⟨w.heap.size + 1 + 1,0,none⟩=false:=keepf hb0 (v:=.int .i64 0) (by simp [go_sem]) (by simp [go_sem])
 have f1:x0.frozen? ⟨w.heap.size + 1 + 1,1,none⟩=false:=keepf hb0 (v:=.int .i64 0) (by simp [go_sem]) (by simp [go_sem])
 have hz0:=hb0.size
 simp at hz0
 have hB0:Below w.heap.size w x0:=bcall bel (by simp <;> omega) hb0
 have hO:Below x0.heap.size x0 (x0.alloc (.cells #[.int .i64 x,.int .i64 d,.bool b] 146)):=(Below.refl _ _).alloc (Nat.le_refl _) _
 have hB1:=bcall hB0 (by omega) hO
 have s0:(x0.alloc (.cells #[.int .i64 x,.int .i64 d,.bool b] 146)).cell? ⟨x0.heap.size,0,none⟩=some (.int .i64 x):=by simp [go_sem]
 have s1:(x0.alloc (.cells #[.int .i64 x,.int .i64 d,.bool b] 146)).cell? ⟨x0.heap.size,1,none⟩=some (.int .i64 d):=by simp [go_sem]
 have s2:(x0.alloc (.cells #[.int .i64 x,.int .i64 d,.bool b] 146)).cell? ⟨x0.heap.size,2,none⟩=some (.bool b):=by simp [go_sem]
 replace f0:=keepf hO r0 f0; replace f1:=keepf hO r1 f1; replace r0:=keepc hO r0; replace r1:=keepc hO r1
 clear hb0 hB0 hO HC
 go_wp2_with fail
 obtain ⟨y,hy⟩:∃ y,y=x0.alloc (.cells #[.int .i64 x,.int .i64 d,.bool b] 146):=⟨_,rfl⟩
 rw [<- hy] at hB1 s0 s1 s2 r0 r1 f0 f1 ⊢
 clear hy
 have hne:¬ (w.heap.size + 1 + 1=x0.heap.size):=by omega
 have hne2:¬ (x0.heap.size=w.heap.size + 1 + 1):=by omega
 go_region
 all_goals
  go_wp2
  refine bodyPost_ret (v:=.tuple #[.agg #[.int .i64 x,.int .i64 d],.bool b]) (by simp [results,Tryz.results67,go_sem,r0,r1]) rfl ⟨rfl,?_⟩
  first
   | exact ((hB1.setCell (p:=⟨w.heap.size + 1 + 1,0,none⟩) (by simp <;> omega) _).setCell (p:=⟨w.heap.size + 1 + 1,1,none⟩) (by simp <;> omega) _).drew
   | exact (hB1.drew.setCell (p:=⟨w.heap.size + 1 + 1,0,none⟩) (by simp <;> omega) _).setCell (p:=⟨w.heap.size + 1 + 1,1,none⟩) (by simp <;> omega) _
end Sp.Sn
namespace Sp.Sn
open Go.RowKit
end Sp.Sn
end Go.Proofs.YtdhopelplokehaaGreat
