/- Part. -/
import Derived.Test.YthfhphdofgkjhaaGreatLBk
set_option maxHeartbeats 4000000
set_option linter.unusedVariables false
namespace Go.Proofs.YthfhphdofgkjhaaGreat
namespace Sp
open Go.RowKit
attribute [local go_sem ↓] Go.wp_at_zero Go.wp_at_succ
set_option maxRecDepth 100000 in
theorem zdk(wd:Int)(ga la fa pa na:Option Addr)(N gc M lc fc pc nc:Nat)(w:World)(hA:∀ w',Below w.heap.size w w'->Calls SqP.prog 12 #[.agg #[.int .i64 wd,.slice ga N gc,.slice la M lc,.slice fa M fc,.slice pa 0 pc,.slice na 0 nc]] w' fun e w''=>e=.returned (.bool true)/\Below w'.heap.size w' w'') :
  Calls SqP.prog 9 #[.agg #[.int .i64 wd,.slice ga N gc,.slice la M lc,.slice fa M fc,.slice pa 0 pc,.slice na 0 nc]] w fun e w'=>e=.returned (.tuple #[.agg #[.int .i64 0,.slice none 0 0,.slice none 0 0,.slice none 0 0,.slice none 0 0,.slice none 0 0],.bool false])/\Below w.heap.size w w':=by
 obtain⟨w2,hw2⟩:∃ w2,w2=(w.alloc (.cells #[.int .i64 wd,.slice ga N gc,.slice la M lc,.slice fa M fc,.slice pa 0 pc,.slice na 0 nc] 33)).alloc (.cells #[.int .i64 0,.slice none 0 0,.slice none 0 0,.slice none 0 0,.slice none 0 0,.slice none 0 0] 33):=⟨_,rfl⟩
 obtain⟨x1,x2,hb⟩:=zcv (.cells #[.int .i64 wd,.slice ga N gc,.slice la M lc,.slice fa M fc,.slice pa 0 pc,.slice na 0 nc] 33) (.cells #[.int .i64 0,.slice none 0 0,.slice none 0 0,.slice none 0 0,.slice none 0 0,.slice none 0 0] 33) w
 rw[<- hw2] at x1 x2 hb
 have HB:Hid (Below w.heap.size w w2):=hb
 have HR:Hid (w2.heap[w.heap.size+1]?=some (.cells #[.int .i64 0,.slice none 0 0,.slice none 0 0,.slice none 0 0,.slice none 0 0,.slice none 0 0] 33)):=x2
 have hO:=hA w2 hb
 obtain⟨c0,c1,c2,c3,c4,c5⟩:=zgn x1
 clear x1 x2 hb hA
 go_enter SqP.func9,Tryz.ntmps9
 go_upto_region 1 with fail
 rw[<- hw2]
 clear hw2
 go_wp2_with fail
 refine hO.mono ?_
 rintro e w3 ⟨rfl,hb⟩
 have B3:Below w.heap.size w w3:=zak HB.out HB.out.size hb
 have R3:Hid (w3.heap[w.heap.size+1]?=some (.cells #[.int .i64 0,.slice none 0 0,.slice none 0 0,.slice none 0 0,.slice none 0 0,.slice none 0 0] 33)):=(hb.block _ (gei HR.out).1).trans HR.out
 replace c0:=zab hb c0;replace c1:=zab hb c1;replace c2:=zab hb c2;replace c3:=zab hb c3;replace c4:=zab hb c4;replace c5:=zab hb c5
 clear hb hO HB HR
 have STG:Hid (0=0):=rfl
 go_wp2
 go_region_held3 (fun w'=>w'.cell? ⟨w.heap.size,0,none⟩=some (.int .i64 wd)/\w'.cell? ⟨w.heap.size,1,none⟩=some (.slice ga N gc)/\w'.cell? ⟨w.heap.size,2,none⟩=some (.slice la M lc)/\w'.cell? ⟨w.heap.size,3,none⟩=some (.slice fa M fc)/\w'.cell? ⟨w.heap.size,4,none⟩=some (.slice pa 0 pc)/\w'.cell? ⟨w.heap.size,5,none⟩=some (.slice na 0 nc))
  (first
   | exact⟨zab hb5 (zab hb4 c0),zab hb5 (zab hb4 c1),zab hb5 (zab hb4 c2),zab hb5 (zab hb4 c3),zab hb5 (zab hb4 c4),zab hb5 (zab hb4 c5)⟩
   | exact⟨zab hb4 c0,zab hb4 c1,zab hb4 c2,zab hb4 c3,zab hb4 c4,zab hb4 c5⟩
   | exact⟨c0,c1,c2,c3,c4,c5⟩
   | go_keep)
  (first
   | (clear STG;go_at_call 22;refine(zev pa pc _).mono ?_;rintro e w4 ⟨rfl,hx4,hb4'⟩;have hb4:Below w3.heap.size w3 w4:=(by first|exact hb4'|exact zch hb4'))
   | (go_at_call 22;refine(zev na nc _).mono ?_;rintro e w5 ⟨rfl,hx5,hb5'⟩;have hb5:Below w4.heap.size w4 w5:=(by first|exact hb5'|exact zch hb5'))
   | fail)
 all_goals
  have hx5':w5.heap[w3.heap.size]?=some (.cells #[.pointer none,.pointer none,.int .i64 0] 105):=(hb5.block _ (gei hx4).1).trans hx4
  have R5:=(hb5.block _ (gei ((hb4.block _ (gei R3.out).1).trans R3.out)).1).trans ((hb4.block _ (gei R3.out).1).trans R3.out)
  have B5:Hid (Below w.heap.size w w5):=zak B3 B3.size (zak hb4 hb4.size hb5)
  have H5:Hid (w5.heap[w.heap.size+1]?=some (.cells #[.int .i64 0,.slice none 0 0,.slice none 0 0,.slice none 0 0,.slice none 0 0,.slice none 0 0] 33)):=R5
  have D5:=zi6 wd ga la fa N gc M lc fc _ _ w5 hx5' hx5
  replace c0:=zab hb5 (zab hb4 c0)
  replace c1:=zab hb5 (zab hb4 c1)
  replace c2:=zab hb5 (zab hb4 c2)
  replace c3:=zab hb5 (zab hb4 c3)
  clear hx4 hx5 hx5' R5 R3 B3 hb4 hb4' hb5 hb5' c4 c5
  go_wp2_with fail
  refine D5.mono ?_
  rintro e w6 ⟨rfl,hb6⟩
  have hb7:Below w6.heap.size w6 (w6.alloc (.cells #[.int .i64 0,.slice none 0 0,.slice none 0 0,.slice none 0 0] 30)):=bel
  have hr6:=(hb6.block _ (gei H5.out).1).trans H5.out
  have R7:Hid ((w6.alloc (.cells #[.int .i64 0,.slice none 0 0,.slice none 0 0,.slice none 0 0] 30)).heap[w.heap.size+1]?=some (.cells #[.int .i64 0,.slice none 0 0,.slice none 0 0,.slice none 0 0,.slice none 0 0,.slice none 0 0] 33)):=(hb7.block _ (gei hr6).1).trans hr6
  have B7:Hid (Below w.heap.size w (w6.alloc (.cells #[.int .i64 0,.slice none 0 0,.slice none 0 0,.slice none 0 0] 30))):=zak (zak B5.out B5.out.size hb6) (zak B5.out B5.out.size hb6).size hb7
  clear hb6 hb7 hr6 H5 B5 D5 c0 c1 c2 c3
  go_upto_region 5 with fail
  obtain⟨w7,hw7⟩:∃ w7,w7=w6.alloc (.cells #[.int .i64 0,.slice none 0 0,.slice none 0 0,.slice none 0 0] 30):=⟨_,rfl⟩
  rw[<- hw7] at R7 B7 ⊢
  clear hw7
  obtain⟨q0,q1,q2,q3,q4,q5⟩:=zgn R7.out
  have t0:=thaw R7.out 0
  have t1:=thaw R7.out 1
  have t2:=thaw R7.out 2
  have t3:=thaw R7.out 3
  have t4:=thaw R7.out 4
  have t5:=thaw R7.out 5
  go_wp2_with fail
  refine bodyPost_ret (v:=.tuple #[.agg #[.int .i64 0,.slice none 0 0,.slice none 0 0,.slice none 0 0,.slice none 0 0,.slice none 0 0],.bool false]) (by simp[results,Tryz.results9,go_sem,q0,q1,q2,q3,q4,q5]) rfl ⟨rfl,?_⟩
  exact((((((B7.out.setCell (p:=⟨w.heap.size+1,0,none⟩) (by show w.heap.size<=w.heap.size+1;omega) _).setCell (p:=⟨w.heap.size+1,1,none⟩) (by show w.heap.size<=w.heap.size+1;omega) _).setCell (p:=⟨w.heap.size+1,2,none⟩) (by show w.heap.size<=w.heap.size+1;omega) _).setCell (p:=⟨w.heap.size+1,3,none⟩) (by show w.heap.size<=w.heap.size+1;omega) _).setCell (p:=⟨w.heap.size+1,4,none⟩) (by show w.heap.size<=w.heap.size+1;omega) _).setCell (p:=⟨w.heap.size+1,5,none⟩) (by show w.heap.size<=w.heap.size+1;omega) _)
set_option maxRecDepth 100000 in
theorem zdK(wd:Int)(ga la fa pa na:Option Addr)(N gc M lc R fc u pc v nc:Nat)(w:World) :
  Calls SqP.prog 25 #[.agg #[.int .i64 wd,.slice ga N gc,.slice la M lc,.slice fa R fc,.slice pa u pc,.slice na v nc]] w fun e w'=>e=.returned (.agg #[.int .i64 wd,.slice ga N gc,.slice la M lc,.slice fa R fc,.slice na v nc,.slice pa u pc])/\Below w.heap.size w w':=by
 obtain⟨w2,hw2⟩:∃ w2,w2=(w.alloc (.cells #[.int .i64 wd,.slice ga N gc,.slice la M lc,.slice fa R fc,.slice pa u pc,.slice na v nc] 33)).alloc (.cells #[.int .i64 0,.slice none 0 0,.slice none 0 0,.slice none 0 0,.slice none 0 0,.slice none 0 0] 33):=⟨_,rfl⟩
 obtain⟨x1,x2,hb⟩:=zcv (.cells #[.int .i64 wd,.slice ga N gc,.slice la M lc,.slice fa R fc,.slice pa u pc,.slice na v nc] 33) (.cells #[.int .i64 0,.slice none 0 0,.slice none 0 0,.slice none 0 0,.slice none 0 0,.slice none 0 0] 33) w
 rw[<- hw2] at x1 x2 hb
 have B7:Hid (Below w.heap.size w w2):=hb
 obtain⟨c0,c1,c2,c3,c4,c5⟩:=zgn x1
 obtain⟨q0,q1,q2,q3,q4,q5⟩:=zgn x2
 have t0:=thaw x2 0
 have t1:=thaw x2 1
 have t2:=thaw x2 2
 have t3:=thaw x2 3
 have t4:=thaw x2 4
 have t5:=thaw x2 5
 clear x1 x2 hb
 go_enter SqP.func25,Tryz.ntmps25
 go_upto_region 1 with fail
 rw[<- hw2]
 clear hw2
 go_wp2_with fail
 refine bodyPost_ret (v:=.agg #[.int .i64 wd,.slice ga N gc,.slice la M lc,.slice fa R fc,.slice na v nc,.slice pa u pc]) (by simp[results,Tryz.results25,go_sem,q0,q1,q2,q3,q4,q5]) rfl ⟨rfl,?_⟩
 exact((((((B7.out.setCell (p:=⟨w.heap.size+1,0,none⟩) (by show w.heap.size<=w.heap.size+1;omega) _).setCell (p:=⟨w.heap.size+1,1,none⟩) (by show w.heap.size<=w.heap.size+1;omega) _).setCell (p:=⟨w.heap.size+1,2,none⟩) (by show w.heap.size<=w.heap.size+1;omega) _).setCell (p:=⟨w.heap.size+1,3,none⟩) (by show w.heap.size<=w.heap.size+1;omega) _).setCell (p:=⟨w.heap.size+1,4,none⟩) (by show w.heap.size<=w.heap.size+1;omega) _).setCell (p:=⟨w.heap.size+1,5,none⟩) (by show w.heap.size<=w.heap.size+1;omega) _)
set_option maxRecDepth 100000 in
theorem zhL(wd:Int)(ga la fa pa na:Option Addr)(N gc M lc fc pc nc:Nat)(w:World)(hA:∀ w',Below w.heap.size w w'->Calls SqP.prog 12 #[.agg #[.int .i64 wd,.slice ga N gc,.slice la M lc,.slice fa M fc,.slice na 0 nc,.slice pa 0 pc]] w' fun e w''=>e=.returned (.bool true)/\Below w'.heap.size w' w'') :
  Calls SqP.prog 10 #[.agg #[.int .i64 wd,.slice ga N gc,.slice la M lc,.slice fa M fc,.slice pa 0 pc,.slice na 0 nc]] w fun e w'=>e=.returned (.tuple #[.agg #[.int .i64 0,.slice none 0 0,.slice none 0 0,.slice none 0 0,.slice none 0 0,.slice none 0 0],.bool false])/\Below w.heap.size w w':=by
 obtain⟨w2,hw2⟩:∃ w2,w2=(w.alloc (.cells #[.int .i64 wd,.slice ga N gc,.slice la M lc,.slice fa M fc,.slice pa 0 pc,.slice na 0 nc] 33)).alloc (.cells #[.int .i64 0,.slice none 0 0,.slice none 0 0,.slice none 0 0,.slice none 0 0,.slice none 0 0] 33):=⟨_,rfl⟩
 obtain⟨x1,x2,hb⟩:=zcv (.cells #[.int .i64 wd,.slice ga N gc,.slice la M lc,.slice fa M fc,.slice pa 0 pc,.slice na 0 nc] 33) (.cells #[.int .i64 0,.slice none 0 0,.slice none 0 0,.slice none 0 0,.slice none 0 0,.slice none 0 0] 33) w
 rw[<- hw2] at x1 x2 hb
 have HB:Hid (Below w.heap.size w w2):=hb
 have HR:Hid (w2.heap[w.heap.size+1]?=some (.cells #[.int .i64 0,.slice none 0 0,.slice none 0 0,.slice none 0 0,.slice none 0 0,.slice none 0 0] 33)):=x2
 have HA:Hid (∀ w',Below w.heap.size w w'->Calls SqP.prog 12 #[.agg #[.int .i64 wd,.slice ga N gc,.slice la M lc,.slice fa M fc,.slice na 0 nc,.slice pa 0 pc]] w' fun e w''=>e=.returned (.bool true)/\Below w'.heap.size w' w''):=hA
 obtain⟨c0,c1,c2,c3,c4,c5⟩:=zgn x1
 clear x1 x2 hb hA
 go_enter SqP.func10,Tryz.ntmps10
 go_upto_region 1 with fail
 rw[<- hw2]
 clear hw2
 go_wp2_with fail
 refine(zdK wd ga la fa pa na N gc M lc M fc 0 pc 0 nc w2).mono ?_
 rintro e w3 ⟨rfl,hb⟩
 have B3:Hid (Below w.heap.size w w3):=zak HB.out HB.out.size hb
 have R3:Hid (w3.heap[w.heap.size+1]?=some (.cells #[.int .i64 0,.slice none 0 0,.slice none 0 0,.slice none 0 0,.slice none 0 0,.slice none 0 0] 33)):=(hb.block _ (gei HR.out).1).trans HR.out
 clear hb HB HR c0 c1 c2 c3 c4 c5
 go_wp2_with fail
 refine(zdk wd ga la fa na pa N gc M lc fc nc pc w3 (fun w' hb=>HA.out w' (zak B3.out B3.out.size hb))).mono ?_
 rintro e w4 ⟨rfl,hb⟩
 have hb7:Below w4.heap.size w4 (w4.alloc (.cells #[.int .i64 0,.slice none 0 0,.slice none 0 0,.slice none 0 0,.slice none 0 0,.slice none 0 0] 33)):=bel
 have hr4:=(hb.block _ (gei R3.out).1).trans R3.out
 have R5:Hid ((w4.alloc (.cells #[.int .i64 0,.slice none 0 0,.slice none 0 0,.slice none 0 0,.slice none 0 0,.slice none 0 0] 33)).heap[w.heap.size+1]?=some (.cells #[.int .i64 0,.slice none 0 0,.slice none 0 0,.slice none 0 0,.slice none 0 0,.slice none 0 0] 33)):=(hb7.block _ (gei hr4).1).trans hr4
 have B5:Hid (Below w.heap.size w (w4.alloc (.cells #[.int .i64 0,.slice none 0 0,.slice none 0 0,.slice none 0 0,.slice none 0 0,.slice none 0 0] 33))):=zak (zak B3.out B3.out.size hb) (zak B3.out B3.out.size hb).size hb7
 have X5:Hid ((w4.alloc (.cells #[.int .i64 0,.slice none 0 0,.slice none 0 0,.slice none 0 0,.slice none 0 0,.slice none 0 0] 33)).heap[w4.heap.size]?=some (.cells #[.int .i64 0,.slice none 0 0,.slice none 0 0,.slice none 0 0,.slice none 0 0,.slice none 0 0] 33)):=(za5 _ w4).1
 clear hb hb7 hr4 R3 B3 HA
 go_upto_region 2 with fail
 obtain⟨w5,hw5⟩:∃ w5,w5=w4.alloc (.cells #[.int .i64 0,.slice none 0 0,.slice none 0 0,.slice none 0 0,.slice none 0 0,.slice none 0 0] 33):=⟨_,rfl⟩
 rw[<- hw5] at R5 B5 X5 ⊢
 clear hw5
 obtain⟨c0,c1,c2,c3,c4,c5⟩:=zgn X5.out
 go_wp2_with fail
 refine(zdK 0 none none none none none 0 0 0 0 0 0 0 0 0 0 w5).mono ?_
 rintro e w6 ⟨rfl,hb⟩
 have B7:Hid (Below w.heap.size w w6):=zak B5.out B5.out.size hb
 have R7:=(hb.block _ (gei R5.out).1).trans R5.out
 obtain⟨q0,q1,q2,q3,q4,q5⟩:=zgn R7
 have t0:=thaw R7 0
 have t1:=thaw R7 1
 have t2:=thaw R7 2
 have t3:=thaw R7 3
 have t4:=thaw R7 4
 have t5:=thaw R7 5
 clear hb R7 R5 B5 X5 c0 c1 c2 c3 c4 c5
 go_wp2_with fail
 refine bodyPost_ret (v:=.tuple #[.agg #[.int .i64 0,.slice none 0 0,.slice none 0 0,.slice none 0 0,.slice none 0 0,.slice none 0 0],.bool false]) (by simp[results,Tryz.results10,go_sem,q0,q1,q2,q3,q4,q5]) rfl ⟨rfl,?_⟩
 exact((((((B7.out.setCell (p:=⟨w.heap.size+1,0,none⟩) (by show w.heap.size<=w.heap.size+1;omega) _).setCell (p:=⟨w.heap.size+1,1,none⟩) (by show w.heap.size<=w.heap.size+1;omega) _).setCell (p:=⟨w.heap.size+1,2,none⟩) (by show w.heap.size<=w.heap.size+1;omega) _).setCell (p:=⟨w.heap.size+1,3,none⟩) (by show w.heap.size<=w.heap.size+1;omega) _).setCell (p:=⟨w.heap.size+1,4,none⟩) (by show w.heap.size<=w.heap.size+1;omega) _).setCell (p:=⟨w.heap.size+1,5,none⟩) (by show w.heap.size<=w.heap.size+1;omega) _)
