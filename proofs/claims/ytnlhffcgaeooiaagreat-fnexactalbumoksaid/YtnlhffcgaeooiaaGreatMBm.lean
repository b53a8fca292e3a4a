/- Part. -/
import Derived.Test.YtnlhffcgaeooiaaGreatMBl
set_option maxHeartbeats 4000000
set_option linter.unusedVariables false
namespace Go.Proofs.YtnlhffcgaeooiaaGreat
variable{es ns:List (Int × Int × Int)}{cs:List (Int × Int)}{fs:List (List Int)}{ls:List Int}{w w':World}
namespace Sp
open Go.RowKit
attribute [local go_sem ↓] Go.wp_at_zero Go.wp_at_succ
theorem zdt{b:Nat}{v0 v1 v2 v3 v4 v5:Value}{t:TypeId}(h:w.heap[b]?=some (.cells #[v0,v1,v2,v3,v4,v5] t)):w.cell? ⟨b,0,none⟩=some v0/\w.cell? ⟨b,1,none⟩=some v1/\w.cell? ⟨b,2,none⟩=some v2/\w.cell? ⟨b,3,none⟩=some v3/\w.cell? ⟨b,4,none⟩=some v4/\w.cell? ⟨b,5,none⟩=some v5 :=
 ⟨(cell_of_row _ _ 0 _ _ _ h).trans rfl,(cell_of_row _ _ 1 _ _ _ h).trans rfl,(cell_of_row _ _ 2 _ _ _ h).trans rfl,(cell_of_row _ _ 3 _ _ _ h).trans rfl,(cell_of_row _ _ 4 _ _ _ h).trans rfl,(cell_of_row _ _ 5 _ _ _ h).trans rfl⟩
def AlM(w:World)(g l f p x:Option Addr)(cs:List (Int × Int))(ls:List Int)(fs:List (List Int))(es ns:List (Int × Int × Int)):Prop:=ScM w g l f cs ls fs/\zff w p es/\zff w x ns
theorem AlM.below{g l f p x:Option Addr}(h:AlM w g l f p x cs ls fs es ns)(hb:Below w.heap.size w w'):AlM w' g l f p x cs ls fs es ns:=⟨h.1.below hb,h.2.1.below hb,h.2.2.below hb⟩
def zgy(cs:List (Int × Int))(ls:List Int)(fs:List (List Int))(es ns:List (Int × Int × Int)):Prop:=zeL cs ls fs/\es.length<=1048576/\ns.length<=1048576
def zmi(cs:List (Int × Int))(ls:List Int)(fs:List (List Int))(es ns:List (Int × Int × Int)):Prop:=Fits cs ls fs/\es.length<=9223372036854775807/\ns.length<=9223372036854775807
theorem ScN.on{lo g1 g2 g3:Nat}(h:ScN w lo g1 g2 g3 cs ls fs)(hb:Below w.heap.size w w'):ScN w' lo g1 g2 g3 cs ls fs:=h.move hb.size fun b _ q=>hb.block b q
theorem zjU(wd:Int)(g l f p x:Option Addr)(gc lc fc pc xc:Nat)(cs:List (Int × Int))(ls:List Int)(fs:List (List Int))(es ns:List (Int × Int × Int))(left:Int)(w:World)(h:zdo w f fs)(hS:zmi cs ls fs es ns)(hl:0<=left/\left<=1048576) :
  Calls SqP.prog 16 #[.agg #[.int .i64 wd,.slice g cs.length gc,.slice l ls.length lc,.slice f fs.length fc,.slice p es.length pc,.slice x ns.length xc],.int .i64 left] w fun e w'=>∃ r:Int,e=.returned (.int .i64 r)/\(r<0\/(0<=r/\r<=left)/\zgy cs ls fs es ns)/\Below w.heap.size w w':=by
 obtain⟨w2,hw2⟩:∃ w2,w2=w.alloc (.cells #[.int .i64 wd,.slice g cs.length gc,.slice l ls.length lc,.slice f fs.length fc,.slice p es.length pc,.slice x ns.length xc] 50):=⟨_,rfl⟩
 obtain⟨x1,hb⟩:=zaU (.cells #[.int .i64 wd,.slice g cs.length gc,.slice l ls.length lc,.slice f fs.length fc,.slice p es.length pc,.slice x ns.length xc] 50) w
 rw[<- hw2] at x1 hb
 have hC:=zjX wd g l f gc lc fc cs ls fs left w2 (h.below hb) hS.1 hl
 have B2:Hid (Below w.heap.size w w2):=hb
 have HF:Hid (zmi cs ls fs es ns):=hS
 clear h hS hb
 obtain⟨N,hN⟩:∃ N,cs.length=N:=⟨_,rfl⟩
 obtain⟨P,hP⟩:∃ P,ls.length=P:=⟨_,rfl⟩
 obtain⟨R,hR⟩:∃ R,fs.length=R:=⟨_,rfl⟩
 obtain⟨U,hU⟩:∃ U,es.length=U:=⟨_,rfl⟩
 obtain⟨V,hV⟩:∃ V,ns.length=V:=⟨_,rfl⟩
 have HN:Hid (es.length=U/\ns.length=V):=⟨hU,hV⟩
 rw[hN,hP,hR] at hC
 rw[hN,hP,hR,hU,hV] at hw2 x1 ⊢
 clear hN hP hR hU hV
 obtain⟨c0,c1,c2,c3,c4,c5⟩:=zdt x1
 clear x1
 go_enter SqP.func16,Tryz.ntmps16
 go_upto_region 1 with fail
 rw[<- hw2]
 clear hw2
 go_wp2_with fail
 refine hC.mono ?_
 rintro e w3 ⟨r,rfl,hr,hb⟩
 have B3:Hid (Below w.heap.size w w3):=zai B2.out B2.out.size hb
 replace c4:=zab hb c4;replace c5:=zab hb c5
 clear hC hb c0 c1 c2 c3
 rcases hr with hr|⟨hr,hS⟩
 ·go_wp2_with fail
  go_ret
  exact⟨_,rfl,.inl (by omega),B3.out⟩
 have HS:Hid (zeL cs ls fs/\r<=left):=⟨hS,hr.2⟩
 clear hS
 have nr:¬ r<0:=by omega
 have hr':0<=r/\r<=1048576:=by omega
 by_cases n2:r - (U:Int)<0
 ·go_wp2_with fail
  refine(zf4 _ _ _ _ _ (by have:=HF.out.2.1;have:=HN.out;omega) (by omega) (by omega)).mono ?_
  rintro e w4 ⟨rfl,rfl⟩
  go_wp2_with fail
  go_ret
  exact⟨_,rfl,.inl (by omega),B3.out⟩
 obtain⟨b,eb⟩:∃ b:Int,r - (U:Int)=b:=⟨_,rfl⟩
 have HB:Hid (r - (U:Int)=b):=eb
 have hb':0<=b/\b<=1048576/\(U:Int)<=1048576:=by omega
 have nb:¬ b<0:=by omega
 clear eb
 go_wp2_with fail
 refine(zf5 _ _ _ _ _ (by have:=HF.out.2.1;have:=HN.out;omega) (by omega) (by omega)).mono ?_
 rintro e w4 ⟨rfl,rfl⟩
 rw[HB.out]
 clear n2
 by_cases n3:b - (V:Int)<0
 ·go_wp2_with fail
  refine(zf4 _ _ _ _ _ (by have:=HF.out.2.2;have:=HN.out;omega) (by omega) (by omega)).mono ?_
  rintro e w5 ⟨rfl,rfl⟩
  go_wp2_with fail
  go_ret
  exact⟨_,rfl,.inl (by omega),B3.out⟩
 obtain⟨d,ed⟩:∃ d:Int,b - (V:Int)=d:=⟨_,rfl⟩
 have HD:Hid (b - (V:Int)=d):=ed
 have hd':0<=d/\d<=b/\(V:Int)<=1048576:=by omega
 have nd:¬ d<0:=by omega
 clear ed
 go_wp2_with fail
 refine(zf5 _ _ _ _ _ (by have:=HF.out.2.2;have:=HN.out;omega) (by omega) (by omega)).mono ?_
 rintro e w5 ⟨rfl,rfl⟩
 rw[HD.out]
 clear n3
 go_wp2_with fail
 go_ret
 exact⟨_,rfl,.inr ⟨⟨by omega,by have:=HS.out.2;have:=HB.out;omega⟩,HS.out.1,by have:=HN.out;omega,by have:=HN.out;omega⟩,B3.out⟩
set_option maxRecDepth 100000 in
theorem zdv(wd:Int)(g l f p x:Option Addr)(gc lc fc pc xc:Nat)(cs:List (Int × Int))(ls:List Int)(fs:List (List Int))(es ns:List (Int × Int × Int))(w:World)(hM:AlM w g l f p x cs ls fs es ns)(hS:zgy cs ls fs es ns) :
  Calls SqP.prog 18 #[.agg #[.int .i64 wd,.slice g cs.length gc,.slice l ls.length lc,.slice f fs.length fc,.slice p es.length pc,.slice x ns.length xc]] w fun e w'=>∃ g1 g2 g3 g4 g5,e=.returned (.agg #[.int .i64 wd,.slice (some ⟨g1,0,none⟩) cs.length cs.length,.slice (some ⟨g2,0,none⟩) ls.length ls.length,.slice (some ⟨g3,0,none⟩) fs.length fs.length,.slice (some ⟨g4,0,none⟩) es.length es.length,.slice (some ⟨g5,0,none⟩) ns.length ns.length])/\AlM w' (some ⟨g1,0,none⟩) (some ⟨g2,0,none⟩) (some ⟨g3,0,none⟩) (some ⟨g4,0,none⟩) (some ⟨g5,0,none⟩) cs ls fs es ns/\Below w.heap.size w w':=by
 obtain⟨w2,hw2⟩:∃ w2,w2=((w.alloc (.cells #[.int .i64 wd,.slice g cs.length gc,.slice l ls.length lc,.slice f fs.length fc,.slice p es.length pc,.slice x ns.length xc] 50)).alloc (.cells #[.int .i64 0,.slice none 0 0,.slice none 0 0,.slice none 0 0,.slice none 0 0,.slice none 0 0] 55)).alloc (.cells #[.int .i64 0,.slice none 0 0,.slice none 0 0,.slice none 0 0,.slice none 0 0,.slice none 0 0] 55):=⟨_,rfl⟩
 obtain⟨x1,x2,x3,hz2,hb2⟩:=zc3 (.cells #[.int .i64 wd,.slice g cs.length gc,.slice l ls.length lc,.slice f fs.length fc,.slice p es.length pc,.slice x ns.length xc] 50) (.cells #[.int .i64 0,.slice none 0 0,.slice none 0 0,.slice none 0 0,.slice none 0 0,.slice none 0 0] 55) (.cells #[.int .i64 0,.slice none 0 0,.slice none 0 0,.slice none 0 0,.slice none 0 0,.slice none 0 0] 55) w
 rw[<- hw2] at x1 x2 x3 hz2 hb2
 have K2:Hid (CpT w2 w.heap.size 50 55 #[.int .i64 wd,.slice g cs.length gc,.slice l ls.length lc,.slice f fs.length fc,.slice p es.length pc,.slice x ns.length xc] #[.int .i64 0,.slice none 0 0,.slice none 0 0,.slice none 0 0,.slice none 0 0,.slice none 0 0] #[.int .i64 0,.slice none 0 0,.slice none 0 0,.slice none 0 0,.slice none 0 0,.slice none 0 0]):=⟨x1,x2,x3⟩
 have B2:Hid (Below w.heap.size w w2):=hb2
 have HI:Hid (AlM w g l f p x cs ls fs es ns/\zgy cs ls fs es ns):=⟨hM,hS⟩
 clear x1 x2 x3 hb2 hM hS
 obtain⟨N,hN⟩:∃ N,cs.length=N:=⟨_,rfl⟩
 obtain⟨P,hP⟩:∃ P,ls.length=P:=⟨_,rfl⟩
 obtain⟨R,hR⟩:∃ R,fs.length=R:=⟨_,rfl⟩
 obtain⟨U,hU⟩:∃ U,es.length=U:=⟨_,rfl⟩
 obtain⟨V,hV⟩:∃ V,ns.length=V:=⟨_,rfl⟩
 have HC:Hid (∀ w1:World,Below w.heap.size w w1->Calls SqP.prog 8 #[.agg #[.int .i64 wd,.slice g N gc,.slice l P lc,.slice f R fc]] w1 fun e w'=>∃ g1 g2 g3,e=.returned (.agg #[.int .i64 wd,.slice (some ⟨g1,0,none⟩) N N,.slice (some ⟨g2,0,none⟩) P P,.slice (some ⟨g3,0,none⟩) R R])/\ScN w' w1.heap.size g1 g2 g3 cs ls fs/\Below w1.heap.size w1 w'):=fun w1 hb=>by
  have:=zj3 wd g l f gc lc fc cs ls fs w1 (HI.out.1.1.below hb) HI.out.2.1
  rw[hN,hP,hR] at this
  exact this
 have HE:Hid (∀ w1:World,Below w.heap.size w w1->Calls SqP.prog 41 #[.slice p U pc] w1 fun e w'=>e=.returned (.slice (some ⟨w1.heap.size,0,none⟩) U U)/\EdN w' w1.heap.size es/\Below w1.heap.size w1 w'):=fun w1 hb=>by
  have:=zf9 p pc es w1 (HI.out.1.2.1.below hb) HI.out.2.2.1
  rw[hU] at this
  exact this
 have HX:Hid (∀ w1:World,Below w.heap.size w w1->Calls SqP.prog 41 #[.slice x V xc] w1 fun e w'=>e=.returned (.slice (some ⟨w1.heap.size,0,none⟩) V V)/\EdN w' w1.heap.size ns/\Below w1.heap.size w1 w'):=fun w1 hb=>by
  have:=zf9 x xc ns w1 (HI.out.1.2.2.below hb) HI.out.2.2.2
  rw[hV] at this
  exact this
 rw[hN,hP,hR,hU,hV] at K2 hw2 ⊢
 clear hN hP hR hU hV
 go_enter SqP.func18,Tryz.ntmps18
 go_upto_region 2 with fail
 rw[<- hw2]
 clear hw2
 obtain⟨c0,c1,c2,c3,c4,c5⟩:=zdt K2.out.a
 go_wp2_with fail
 refine(HC.out w2 B2.out).mono ?_
 rintro e w3 ⟨g1,g2,g3,rfl,hO,hb3⟩
 have hz3:=hb3.size
 have K3:=K2.out.on hb3
 have B3:Hid (Below w.heap.size w w3):=zai B2.out B2.out.size hb3
 obtain⟨o0,o1,o2,o3,o4,o5⟩:=zdt K3.o
 have t0:=thaw K3.o 0
 have t1:=thaw K3.o 1
 have t2:=thaw K3.o 2
 have t3:=thaw K3.o 3
 have hlo:w.heap.size+2<w2.heap.size:=by omega
 have K4:Hid (CpT ((((w3.setCell ⟨w.heap.size+2,0,none⟩ (.int .i64 wd)).setCell ⟨w.heap.size+2,1,none⟩ (.slice (some ⟨g1,0,none⟩) N N)).setCell ⟨w.heap.size+2,2,none⟩ (.slice (some ⟨g2,0,none⟩) P P)).setCell ⟨w.heap.size+2,3,none⟩ (.slice (some ⟨g3,0,none⟩) R R)) w.heap.size 50 55 #[.int .i64 wd,.slice g N gc,.slice l P lc,.slice f R fc,.slice p U pc,.slice x V xc] #[.int .i64 0,.slice none 0 0,.slice none 0 0,.slice none 0 0,.slice none 0 0,.slice none 0 0] #[.int .i64 wd,.slice (some ⟨g1,0,none⟩) N N,.slice (some ⟨g2,0,none⟩) P P,.slice (some ⟨g3,0,none⟩) R R,.slice none 0 0,.slice none 0 0]):=(((K3.put 0 _).put 1 _).put 2 _).put 3 _
 have M4:Hid (ScN ((((w3.setCell ⟨w.heap.size+2,0,none⟩ (.int .i64 wd)).setCell ⟨w.heap.size+2,1,none⟩ (.slice (some ⟨g1,0,none⟩) N N)).setCell ⟨w.heap.size+2,2,none⟩ (.slice (some ⟨g2,0,none⟩) P P)).setCell ⟨w.heap.size+2,3,none⟩ (.slice (some ⟨g3,0,none⟩) R R)) w2.heap.size g1 g2 g3 cs ls fs):=(((hO.put hlo _).put hlo _).put hlo _).put hlo _
 have B4:Hid (Below w.heap.size w ((((w3.setCell ⟨w.heap.size+2,0,none⟩ (.int .i64 wd)).setCell ⟨w.heap.size+2,1,none⟩ (.slice (some ⟨g1,0,none⟩) N N)).setCell ⟨w.heap.size+2,2,none⟩ (.slice (some ⟨g2,0,none⟩) P P)).setCell ⟨w.heap.size+2,3,none⟩ (.slice (some ⟨g3,0,none⟩) R R))):=((((B3.out.setCell (p:=⟨w.heap.size+2,0,none⟩) (by show w.heap.size<=w.heap.size+2;omega) _).setCell (p:=⟨w.heap.size+2,1,none⟩) (by show w.heap.size<=w.heap.size+2;omega) _).setCell (p:=⟨w.heap.size+2,2,none⟩) (by show w.heap.size<=w.heap.size+2;omega) _).setCell (p:=⟨w.heap.size+2,3,none⟩) (by show w.heap.size<=w.heap.size+2;omega) _)
 have z4:Hid (w3.heap.size=((((w3.setCell ⟨w.heap.size+2,0,none⟩ (.int .i64 wd)).setCell ⟨w.heap.size+2,1,none⟩ (.slice (some ⟨g1,0,none⟩) N N)).setCell ⟨w.heap.size+2,2,none⟩ (.slice (some ⟨g2,0,none⟩) P P)).setCell ⟨w.heap.size+2,3,none⟩ (.slice (some ⟨g3,0,none⟩) R R)).heap.size):=by show _=_;simp
 clear K3 hO hb3 c0 c1 c2 c3 c4 c5 K2 HC
 go_upto_region 3 with fail
 obtain⟨w4,hw4⟩:∃ w4,w4=((((w3.setCell ⟨w.heap.size+2,0,none⟩ (.int .i64 wd)).setCell ⟨w.heap.size+2,1,none⟩ (.slice (some ⟨g1,0,none⟩) N N)).setCell ⟨w.heap.size+2,2,none⟩ (.slice (some ⟨g2,0,none⟩) P P)).setCell ⟨w.heap.size+2,3,none⟩ (.slice (some ⟨g3,0,none⟩) R R)):=⟨_,rfl⟩
 rw[<- hw4] at K4 M4 B4 z4 ⊢
 clear hw4 o0 o1 o2 o3 o4 o5 t0 t1 t2 t3 B3
 obtain⟨c0,c1,c2,c3,c4,c5⟩:=zdt K4.out.a
 go_wp2_with fail
 refine(HE.out w4 B4.out).mono ?_
 rintro e w5 ⟨rfl,hO5,hb5⟩
 have hz5:=hb5.size
 have K5:=K4.out.on hb5
 have M5:=M4.out.on hb5
 have B5:Hid (Below w.heap.size w w5):=zai B4.out B4.out.size hb5
 obtain⟨g4,eg4⟩:∃ g4,g4=w4.heap.size:=⟨_,rfl⟩
 have hlo4:w.heap.size+2<g4:=by have:=z4.out;omega
 rw[<- eg4] at hO5 ⊢
 clear eg4
 have o4:=(zdt K5.o).2.2.2.2.1
 have t4:=thaw K5.o 4
 have K6:Hid (CpT (w5.setCell ⟨w.heap.size+2,4,none⟩ (.slice (some ⟨g4,0,none⟩) U U)) w.heap.size 50 55 #[.int .i64 wd,.slice g N gc,.slice l P lc,.slice f R fc,.slice p U pc,.slice x V xc] #[.int .i64 0,.slice none 0 0,.slice none 0 0,.slice none 0 0,.slice none 0 0,.slice none 0 0] #[.int .i64 wd,.slice (some ⟨g1,0,none⟩) N N,.slice (some ⟨g2,0,none⟩) P P,.slice (some ⟨g3,0,none⟩) R R,.slice (some ⟨g4,0,none⟩) U U,.slice none 0 0]):=K5.put 4 _
 have M6:Hid (ScN (w5.setCell ⟨w.heap.size+2,4,none⟩ (.slice (some ⟨g4,0,none⟩) U U)) w2.heap.size g1 g2 g3 cs ls fs/\EdN (w5.setCell ⟨w.heap.size+2,4,none⟩ (.slice (some ⟨g4,0,none⟩) U U)) g4 es):=⟨M5.put hlo _,hO5.put hlo4 _⟩
 have B6:Hid (Below w.heap.size w (w5.setCell ⟨w.heap.size+2,4,none⟩ (.slice (some ⟨g4,0,none⟩) U U))):=(B5.out.setCell (p:=⟨w.heap.size+2,4,none⟩) (by show w.heap.size<=w.heap.size+2;omega) _)
 have z6:Hid (w5.heap.size=(w5.setCell ⟨w.heap.size+2,4,none⟩ (.slice (some ⟨g4,0,none⟩) U U)).heap.size):=by show _=_;simp
 clear K5 M5 hO5 hb5 c0 c1 c2 c3 c4 c5 K4 M4 B4 HE
 go_upto_region 4 with fail
 obtain⟨w6,hw6⟩:∃ w6,w6=(w5.setCell ⟨w.heap.size+2,4,none⟩ (.slice (some ⟨g4,0,none⟩) U U)):=⟨_,rfl⟩
 rw[<- hw6] at K6 M6 B6 z6 ⊢
 clear hw6 o4 t4 B5
 obtain⟨c0,c1,c2,c3,c4,c5⟩:=zdt K6.out.a
 go_wp2_with fail
 refine(HX.out w6 B6.out).mono ?_
 rintro e w7 ⟨rfl,hO7,hb7⟩
 have K7:=K6.out.on hb7
 have M7:=M6.out.1.on hb7
 have E7:=M6.out.2.on hb7
 have B7:Hid (Below w.heap.size w w7):=zai B6.out B6.out.size hb7
 obtain⟨g5,eg5⟩:∃ g5,g5=w6.heap.size:=⟨_,rfl⟩
 have hlo5:w.heap.size+2<g5:=by have:=z4.out;have:=z6.out;omega
 rw[<- eg5] at hO7 ⊢
 clear eg5
 have o5:=(zdt K7.o).2.2.2.2.2
 have t5:=thaw K7.o 5
 have K8:Hid (CpT (w7.setCell ⟨w.heap.size+2,5,none⟩ (.slice (some ⟨g5,0,none⟩) V V)) w.heap.size 50 55 #[.int .i64 wd,.slice g N gc,.slice l P lc,.slice f R fc,.slice p U pc,.slice x V xc] #[.int .i64 0,.slice none 0 0,.slice none 0 0,.slice none 0 0,.slice none 0 0,.slice none 0 0] #[.int .i64 wd,.slice (some ⟨g1,0,none⟩) N N,.slice (some ⟨g2,0,none⟩) P P,.slice (some ⟨g3,0,none⟩) R R,.slice (some ⟨g4,0,none⟩) U U,.slice (some ⟨g5,0,none⟩) V V]):=K7.put 5 _
 have M8:Hid (ScN (w7.setCell ⟨w.heap.size+2,5,none⟩ (.slice (some ⟨g5,0,none⟩) V V)) w2.heap.size g1 g2 g3 cs ls fs/\EdN (w7.setCell ⟨w.heap.size+2,5,none⟩ (.slice (some ⟨g5,0,none⟩) V V)) g4 es/\EdN (w7.setCell ⟨w.heap.size+2,5,none⟩ (.slice (some ⟨g5,0,none⟩) V V)) g5 ns):=⟨M7.put hlo _,E7.put hlo4 _,hO7.put hlo5 _⟩
 have B8:Hid (Below w.heap.size w (w7.setCell ⟨w.heap.size+2,5,none⟩ (.slice (some ⟨g5,0,none⟩) V V))):=(B7.out.setCell (p:=⟨w.heap.size+2,5,none⟩) (by show w.heap.size<=w.heap.size+2;omega) _)
 clear K7 M7 E7 hO7 hb7 c0 c1 c2 c3 c4 c5 K6 M6 B6 HX
 go_upto_region 5 with fail
 obtain⟨w8,hw8⟩:∃ w8,w8=(w7.setCell ⟨w.heap.size+2,5,none⟩ (.slice (some ⟨g5,0,none⟩) V V)):=⟨_,rfl⟩
 rw[<- hw8] at K8 M8 B8 ⊢
 clear hw8 o5 t5 B7
 obtain⟨c0,c1,c2,c3,c4,c5⟩:=zdt K8.out.o
 obtain⟨q0,q1,q2,q3,q4,q5⟩:=zdt K8.out.r
 have t0:=thaw K8.out.r 0
 have t1:=thaw K8.out.r 1
 have t2:=thaw K8.out.r 2
 have t3:=thaw K8.out.r 3
 have t4:=thaw K8.out.r 4
 have t5:=thaw K8.out.r 5
 have k1:w.heap.size+1<w2.heap.size:=by omega
 have k4:w.heap.size+1<g4:=by omega
 have k5:w.heap.size+1<g5:=by omega
 go_wp2_with fail
 refine bodyPost_ret (v:=.agg #[.int .i64 wd,.slice (some ⟨g1,0,none⟩) N N,.slice (some ⟨g2,0,none⟩) P P,.slice (some ⟨g3,0,none⟩) R R,.slice (some ⟨g4,0,none⟩) U U,.slice (some ⟨g5,0,none⟩) V V]) (by simp[results,Tryz.results18,go_sem,q0,q1,q2,q3,q4,q5]) rfl ⟨g1,g2,g3,g4,g5,rfl,⟨?_,?_,?_⟩,?_⟩
 ·exact((((((M8.out.1.put k1 _).put k1 _).put k1 _).put k1 _).put k1 _).put k1 _).m
 ·exact((((((M8.out.2.1.put k4 _).put k4 _).put k4 _).put k4 _).put k4 _).put k4 _).m
 ·exact((((((M8.out.2.2.put k5 _).put k5 _).put k5 _).put k5 _).put k5 _).put k5 _).m
 ·exact((((((B8.out.setCell (p:=⟨w.heap.size+1,0,none⟩) (by show w.heap.size<=w.heap.size+1;omega) _).setCell (p:=⟨w.heap.size+1,1,none⟩) (by show w.heap.size<=w.heap.size+1;omega) _).setCell (p:=⟨w.heap.size+1,2,none⟩) (by show w.heap.size<=w.heap.size+1;omega) _).setCell (p:=⟨w.heap.size+1,3,none⟩) (by show w.heap.size<=w.heap.size+1;omega) _).setCell (p:=⟨w.heap.size+1,4,none⟩) (by show w.heap.size<=w.heap.size+1;omega) _).setCell (p:=⟨w.heap.size+1,5,none⟩) (by show w.heap.size<=w.heap.size+1;omega) _)
theorem zmL{wd:Int}{g l f p x g2 l2 f2 p2 x2:Option Addr}{gc lc fc pc xc gc2 lc2 fc2 pc2 xc2:Nat}(h:AlM w g l f p x cs ls fs es ns)(h2:AlM w g2 l2 f2 p2 x2 cs ls fs es ns)(hS:zgy cs ls fs es ns) :
  Calls SqP.prog 20 #[.agg #[.int .i64 wd,.slice g cs.length gc,.slice l ls.length lc,.slice f fs.length fc,.slice p es.length pc,.slice x ns.length xc],.agg #[.int .i64 wd,.slice g2 cs.length gc2,.slice l2 ls.length lc2,.slice f2 fs.length fc2,.slice p2 es.length pc2,.slice x2 ns.length xc2]] w fun e w'=>e=.returned (.bool true)/\Below w.heap.size w w':=by
 obtain⟨w2,hw2⟩:∃ w2,w2=(w.alloc (.cells #[.int .i64 wd,.slice g cs.length gc,.slice l ls.length lc,.slice f fs.length fc,.slice p es.length pc,.slice x ns.length xc] 55)).alloc (.cells #[.int .i64 wd,.slice g2 cs.length gc2,.slice l2 ls.length lc2,.slice f2 fs.length fc2,.slice p2 es.length pc2,.slice x2 ns.length xc2] 55):=⟨_,rfl⟩
 obtain⟨x1,y1,hb2⟩:=zew (.cells #[.int .i64 wd,.slice g cs.length gc,.slice l ls.length lc,.slice f fs.length fc,.slice p es.length pc,.slice x ns.length xc] 55) (.cells #[.int .i64 wd,.slice g2 cs.length gc2,.slice l2 ls.length lc2,.slice f2 fs.length fc2,.slice p2 es.length pc2,.slice x2 ns.length xc2] 55) w
 rw[<- hw2] at x1 y1 hb2
 have H2:Hid (Below w.heap.size w w2):=hb2
 have X2:Hid (w2.heap[w.heap.size]?=some (.cells #[.int .i64 wd,.slice g cs.length gc,.slice l ls.length lc,.slice f fs.length fc,.slice p es.length pc,.slice x ns.length xc] 55)/\w2.heap[w.heap.size+1]?=some (.cells #[.int .i64 wd,.slice g2 cs.length gc2,.slice l2 ls.length lc2,.slice f2 fs.length fc2,.slice p2 es.length pc2,.slice x2 ns.length xc2] 55)):=⟨x1,y1⟩
 have HE:=zmN (wd:=wd) (gc:=gc) (lc:=lc) (fc:=fc) (gc2:=gc2) (lc2:=lc2) (fc2:=fc2) (h.1.below hb2) (h2.1.below hb2) hS.1
 have HP:Hid (∀ w',Below w.heap.size w w'->Calls SqP.prog 43 #[.slice p es.length pc,.slice p2 es.length pc2] w' fun e w''=>e=.returned (.bool true)/\Below w'.heap.size w' w''):=fun w' hb=>zh4 p p2 pc pc2 es w' (h.2.1.below hb) (h2.2.1.below hb) hS.2.1
 have HX:Hid (∀ w',Below w.heap.size w w'->Calls SqP.prog 43 #[.slice x ns.length xc,.slice x2 ns.length xc2] w' fun e w''=>e=.returned (.bool true)/\Below w'.heap.size w' w''):=fun w' hb=>zh4 x x2 xc xc2 ns w' (h.2.2.below hb) (h2.2.2.below hb) hS.2.2
 clear h h2 hS x1 y1 hb2
 obtain⟨N,hN⟩:∃ N,cs.length=N:=⟨_,rfl⟩
 obtain⟨P,hP⟩:∃ P,ls.length=P:=⟨_,rfl⟩
 obtain⟨R,hR⟩:∃ R,fs.length=R:=⟨_,rfl⟩
 obtain⟨U,hU⟩:∃ U,es.length=U:=⟨_,rfl⟩
 obtain⟨V,hV⟩:∃ V,ns.length=V:=⟨_,rfl⟩
 rw[hN,hP,hR] at HE
 rw[hU] at HP
 rw[hV] at HX
 rw[hN,hP,hR,hU,hV] at X2 hw2 ⊢
 clear hN hP hR hU hV
 go_enter SqP.func20,Tryz.ntmps20
 go_upto_region 1 with fail
 rw[<- hw2]
 clear hw2
 obtain⟨c0,c1,c2,c3,c4,c5⟩:=zdt X2.out.1
 obtain⟨d0,d1,d2,d3,d4,d5⟩:=zdt X2.out.2
 clear X2
 go_wp2_with fail
 refine HE.mono ?_
 rintro e w3 ⟨rfl,hb⟩
 have H3:Hid (Below w.heap.size w w3):=zai H2.out H2.out.size hb
 replace c4:=zab hb c4;replace c5:=zab hb c5;replace d4:=zab hb d4;replace d5:=zab hb d5
 clear hb HE c0 c1 c2 c3 d0 d1 d2 d3 H2
 go_wp2_with fail
 refine(HP.out w3 H3.out).mono ?_
 rintro e w4 ⟨rfl,hb⟩
 have H4:Hid (Below w.heap.size w w4):=zai H3.out H3.out.size hb
 replace c5:=zab hb c5;replace d5:=zab hb d5
 clear hb c4 d4 H3
 go_wp2_with fail
 refine(HX.out w4 H4.out).mono ?_
 rintro e w5 ⟨rfl,hb⟩
 have H5:Hid (Below w.heap.size w w5):=zai H4.out H4.out.size hb
 clear hb c5 d5 H4
 go_wp2_with fail
 go_ret
 exact⟨rfl,H5.out⟩
set_option maxRecDepth 100000 in
theorem zft(wd:Int)(g l f p x:Option Addr)(gc lc fc pc xc:Nat)(cs:List (Int × Int))(ls:List Int)(fs:List (List Int))(es ns:List (Int × Int × Int))(w:World)(hM:AlM w g l f p x cs ls fs es ns){a1 a2 b:Bool}(hE1:∀(w:World),zff w p es->Calls SqP.prog 42 #[.agg #[.int .i64 wd,.slice g cs.length gc],.slice p es.length pc] w fun e w'=>e=.returned (.bool a1)/\Below w.heap.size w w')(hE2:∀(w:World),zff w x ns->Calls SqP.prog 42 #[.agg #[.int .i64 wd,.slice g cs.length gc],.slice x ns.length xc] w fun e w'=>e=.returned (.bool a2)/\Below w.heap.size w w')(hC:∀(w:World),ScM w g l f cs ls fs->Calls SqP.prog 9 #[.agg #[.int .i64 wd,.slice g cs.length gc,.slice l ls.length lc,.slice f fs.length fc]] w fun e w'=>e=.returned (.bool b)/\Below w.heap.size w w') :
  Calls SqP.prog 19 #[.agg #[.int .i64 wd,.slice g cs.length gc,.slice l ls.length lc,.slice f fs.length fc,.slice p es.length pc,.slice x ns.length xc]] w fun e w'=>e=.returned (.bool (a1 && a2 && b))/\Below w.heap.size w w':=by
 obtain⟨w2,hw2⟩:∃ w2,w2=w.alloc (.cells #[.int .i64 wd,.slice g cs.length gc,.slice l ls.length lc,.slice f fs.length fc,.slice p es.length pc,.slice x ns.length xc] 55):=⟨_,rfl⟩
 obtain⟨y1,hb2⟩:=zaU (.cells #[.int .i64 wd,.slice g cs.length gc,.slice l ls.length lc,.slice f fs.length fc,.slice p es.length pc,.slice x ns.length xc] 55) w
 rw[<- hw2] at y1 hb2
 have H2:Hid (Below w.heap.size w w2):=hb2
 have H1':=fun (w1:World) (hb:Below w.heap.size w w1)=>hE1 w1 (hM.2.1.below hb)
 have H2':=fun (w1:World) (hb:Below w.heap.size w w1)=>hE2 w1 (hM.2.2.below hb)
 have H3':=fun (w1:World) (hb:Below w.heap.size w w1)=>hC w1 (hM.1.below hb)
 obtain⟨N,hN⟩:∃ N,cs.length=N:=⟨_,rfl⟩
 obtain⟨P,hP⟩:∃ P,ls.length=P:=⟨_,rfl⟩
 obtain⟨R,hR⟩:∃ R,fs.length=R:=⟨_,rfl⟩
 obtain⟨U,hU⟩:∃ U,es.length=U:=⟨_,rfl⟩
 obtain⟨V,hV⟩:∃ V,ns.length=V:=⟨_,rfl⟩
 rw[hN,hU] at H1'
 rw[hN,hV] at H2'
 rw[hN,hP,hR] at H3'
 have E1:Hid (∀ w1:World,Below w.heap.size w w1->_):=H1'
 have E2:Hid (∀ w1:World,Below w.heap.size w w1->_):=H2'
 have E3:Hid (∀ w1:World,Below w.heap.size w w1->_):=H3'
 rw[hN,hP,hR,hU,hV] at hw2 y1 ⊢
 clear H1' H2' H3' hE1 hE2 hC hM hb2 hN hP hR hU hV
 obtain⟨c0,c1,c2,c3,c4,c5⟩:=zdt y1
 clear y1
 go_enter SqP.func19,Tryz.ntmps19
 go_upto_region 1 with fail
 rw[<- hw2]
 clear hw2
 rcases a1 with _|_
 ·go_wp2_with fail
  refine(E1.out w2 H2.out).mono ?_
  rintro e w3 ⟨rfl,hb⟩
  have Bw3:Below w.heap.size w w3:=zai H2.out (H2.out).size hb
  replace c0:=zab hb c0;replace c1:=zab hb c1;replace c2:=zab hb c2;replace c3:=zab hb c3;replace c4:=zab hb c4;replace c5:=zab hb c5
  clear hb
  go_wp2_with fail
  go_ret
  exact⟨by simp,Bw3⟩
 go_wp2_with fail
 refine(E1.out w2 H2.out).mono ?_
 rintro e w3 ⟨rfl,hb⟩
 have Bw3:Below w.heap.size w w3:=zai H2.out (H2.out).size hb
 replace c0:=zab hb c0;replace c1:=zab hb c1;replace c2:=zab hb c2;replace c3:=zab hb c3;replace c4:=zab hb c4;replace c5:=zab hb c5
 clear hb
 rcases a2 with _|_
 ·go_wp2_with fail
  refine(E2.out w3 Bw3).mono ?_
  rintro e w4 ⟨rfl,hb⟩
  have Bw4:Below w.heap.size w w4:=zai Bw3 (Bw3).size hb
  replace c0:=zab hb c0;replace c1:=zab hb c1;replace c2:=zab hb c2;replace c3:=zab hb c3;replace c4:=zab hb c4;replace c5:=zab hb c5
  clear hb
  go_wp2_with fail
  go_ret
  exact⟨by simp,Bw4⟩
 go_wp2_with fail
 refine(E2.out w3 Bw3).mono ?_
 rintro e w4 ⟨rfl,hb⟩
 have Bw4:Below w.heap.size w w4:=zai Bw3 (Bw3).size hb
 replace c0:=zab hb c0;replace c1:=zab hb c1;replace c2:=zab hb c2;replace c3:=zab hb c3;replace c4:=zab hb c4;replace c5:=zab hb c5
 clear hb
 go_wp2_with fail
 refine(E3.out w4 Bw4).mono ?_
 rintro e w5 ⟨rfl,hb⟩
 have Bw5:Below w.heap.size w w5:=zai Bw4 (Bw4).size hb
 replace c0:=zab hb c0;replace c1:=zab hb c1;replace c2:=zab hb c2;replace c3:=zab hb c3;replace c4:=zab hb c4;replace c5:=zab hb c5
 clear hb
 go_wp2_with fail
 go_ret
 exact⟨by simp,Bw5⟩
set_option maxRecDepth 100000 in
theorem zfM(wd:Int)(g l f p x:Option Addr)(gc lc fc pc xc:Nat)(cs:List (Int × Int))(ls:List Int)(fs:List (List Int))(es ns:List (Int × Int × Int))(w:World)(hM:AlM w g l f p x cs ls fs es ns){a1 a2 b:Bool}(hE1:∀(w:World),zff w p es->Calls SqP.prog 40 #[.agg #[.int .i64 wd,.slice g cs.length gc],.slice p es.length pc] w fun e w'=>e=.returned (.bool a1)/\Below w.heap.size w w')(hE2:∀(w:World),zff w x ns->Calls SqP.prog 40 #[.agg #[.int .i64 wd,.slice g cs.length gc],.slice x ns.length xc] w fun e w'=>e=.returned (.bool a2)/\Below w.heap.size w w')(hC:∀(w:World),ScM w g l f cs ls fs->Calls SqP.prog 7 #[.agg #[.int .i64 wd,.slice g cs.length gc,.slice l ls.length lc,.slice f fs.length fc]] w fun e w'=>e=.returned (.bool b)/\Below w.heap.size w w') :
  Calls SqP.prog 17 #[.agg #[.int .i64 wd,.slice g cs.length gc,.slice l ls.length lc,.slice f fs.length fc,.slice p es.length pc,.slice x ns.length xc]] w fun e w'=>e=.returned (.bool (b && decide (es.length<=12) && decide (ns.length<=12) && a1 && a2))/\Below w.heap.size w w':=by
 obtain⟨w2,hw2⟩:∃ w2,w2=w.alloc (.cells #[.int .i64 wd,.slice g cs.length gc,.slice l ls.length lc,.slice f fs.length fc,.slice p es.length pc,.slice x ns.length xc] 55):=⟨_,rfl⟩
 obtain⟨y1,hb2⟩:=zaU (.cells #[.int .i64 wd,.slice g cs.length gc,.slice l ls.length lc,.slice f fs.length fc,.slice p es.length pc,.slice x ns.length xc] 55) w
 rw[<- hw2] at y1 hb2
 have H2:Hid (Below w.heap.size w w2):=hb2
 have H1':=fun (w1:World) (hb:Below w.heap.size w w1)=>hE1 w1 (hM.2.1.below hb)
 have H2':=fun (w1:World) (hb:Below w.heap.size w w1)=>hE2 w1 (hM.2.2.below hb)
 have H3':=fun (w1:World) (hb:Below w.heap.size w w1)=>hC w1 (hM.1.below hb)
 obtain⟨N,hN⟩:∃ N,cs.length=N:=⟨_,rfl⟩
 obtain⟨P,hP⟩:∃ P,ls.length=P:=⟨_,rfl⟩
 obtain⟨R,hR⟩:∃ R,fs.length=R:=⟨_,rfl⟩
 obtain⟨U,hU⟩:∃ U,es.length=U:=⟨_,rfl⟩
 obtain⟨V,hV⟩:∃ V,ns.length=V:=⟨_,rfl⟩
 rw[hN,hU] at H1'
 rw[hN,hV] at H2'
 rw[hN,hP,hR] at H3'
 have E1:Hid (∀ w1:World,Below w.heap.size w w1->_):=H1'
 have E2:Hid (∀ w1:World,Below w.heap.size w w1->_):=H2'
 have E3:Hid (∀ w1:World,Below w.heap.size w w1->_):=H3'
 rw[hN,hP,hR,hU,hV] at hw2 y1 ⊢
 clear H1' H2' H3' hE1 hE2 hC hM hb2 hN hP hR hU hV
 obtain⟨c0,c1,c2,c3,c4,c5⟩:=zdt y1
 clear y1
 go_enter SqP.func17,Tryz.ntmps17
 go_upto_region 1 with fail
 rw[<- hw2]
 clear hw2
 rcases b with _|_
 ·go_wp2_with fail
  refine(E3.out w2 H2.out).mono ?_
  rintro e w3 ⟨rfl,hb⟩
  have Bw3:Below w.heap.size w w3:=zai H2.out (H2.out).size hb
  replace c0:=zab hb c0;replace c1:=zab hb c1;replace c2:=zab hb c2;replace c3:=zab hb c3;replace c4:=zab hb c4;replace c5:=zab hb c5
  clear hb
  go_wp2_with fail
  go_ret
  exact⟨by simp,Bw3⟩
 by_cases hu:¬ U<=12
 ·have HQ:Hid (¬ U<=12):=hu
  have huI:¬ (U:Int)<=12:=by omega
  go_wp2_with fail
  refine(E3.out w2 H2.out).mono ?_
  rintro e w3 ⟨rfl,hb⟩
  have Bw3:Below w.heap.size w w3:=zai H2.out (H2.out).size hb
  replace c0:=zab hb c0;replace c1:=zab hb c1;replace c2:=zab hb c2;replace c3:=zab hb c3;replace c4:=zab hb c4;replace c5:=zab hb c5
  clear hb
  go_wp2_with fail
  go_ret
  exact⟨by have h:=HQ.out;first|(simp;done)|(simp;omega)|simp[h],Bw3⟩
 ·by_cases hv:¬ V<=12
  ·have HQ:Hid (U<=12/\¬ V<=12):=⟨by omega,hv⟩
   have huI:(U:Int)<=12:=by omega
   have hvI:¬ (V:Int)<=12:=by omega
   go_wp2_with fail
   refine(E3.out w2 H2.out).mono ?_
   rintro e w3 ⟨rfl,hb⟩
   have Bw3:Below w.heap.size w w3:=zai H2.out (H2.out).size hb
   replace c0:=zab hb c0;replace c1:=zab hb c1;replace c2:=zab hb c2;replace c3:=zab hb c3;replace c4:=zab hb c4;replace c5:=zab hb c5
   clear hb
   go_wp2_with fail
   go_ret
   exact⟨by have h:=HQ.out;first|(simp;done)|(simp;omega)|simp[h],Bw3⟩
  ·have hvI:(V:Int)<=12:=by omega
   have huI:(U:Int)<=12:=by omega
   have HQ:Hid (U<=12/\V<=12):=⟨by omega,by omega⟩
   go_wp2_with fail
   refine(E3.out w2 H2.out).mono ?_
   rintro e w3 ⟨rfl,hb⟩
   have Bw3:Below w.heap.size w w3:=zai H2.out (H2.out).size hb
   replace c0:=zab hb c0;replace c1:=zab hb c1;replace c2:=zab hb c2;replace c3:=zab hb c3;replace c4:=zab hb c4;replace c5:=zab hb c5
   clear hb
   rcases a1 with _|_
   ·go_wp2_with fail
    refine(E1.out w3 Bw3).mono ?_
    rintro e w4 ⟨rfl,hb⟩
    have Bw4:Below w.heap.size w w4:=zai Bw3 (Bw3).size hb
    replace c0:=zab hb c0;replace c1:=zab hb c1;replace c2:=zab hb c2;replace c3:=zab hb c3;replace c4:=zab hb c4;replace c5:=zab hb c5
    clear hb
    go_wp2_with fail
    go_ret
    exact⟨by simp,Bw4⟩
   go_wp2_with fail
   refine(E1.out w3 Bw3).mono ?_
   rintro e w4 ⟨rfl,hb⟩
   have Bw4:Below w.heap.size w w4:=zai Bw3 (Bw3).size hb
   replace c0:=zab hb c0;replace c1:=zab hb c1;replace c2:=zab hb c2;replace c3:=zab hb c3;replace c4:=zab hb c4;replace c5:=zab hb c5
   clear hb
   go_wp2_with fail
   refine(E2.out w4 Bw4).mono ?_
   rintro e w5 ⟨rfl,hb⟩
   have Bw5:Below w.heap.size w w5:=zai Bw4 (Bw4).size hb
   replace c0:=zab hb c0;replace c1:=zab hb c1;replace c2:=zab hb c2;replace c3:=zab hb c3;replace c4:=zab hb c4;replace c5:=zab hb c5
   clear hb
   go_wp2_with fail
   go_ret
   exact⟨by have h:=HQ.out;simp[h.1,h.2],Bw5⟩
theorem zmk(wd:Int)(cs:List (Int × Int))(ls:List Int)(fs:List (List Int))(es ns:List (Int × Int × Int))(hS:zgy cs ls fs es ns):∃ b:Bool,
  (∀(g l f p x:Option Addr) (gc lc fc pc xc:Nat) (w:World),AlM w g l f p x cs ls fs es ns->Calls SqP.prog 19 #[.agg #[.int .i64 wd,.slice g cs.length gc,.slice l ls.length lc,.slice f fs.length fc,.slice p es.length pc,.slice x ns.length xc]] w fun e w'=>e=.returned (.bool b)/\Below w.heap.size w w') /\
  (∀(g l f p x:Option Addr) (gc lc fc pc xc:Nat) (w:World),AlM w g l f p x cs ls fs es ns->Calls SqP.prog 17 #[.agg #[.int .i64 wd,.slice g cs.length gc,.slice l ls.length lc,.slice f fs.length fc,.slice p es.length pc,.slice x ns.length xc]] w fun e w'=>e=.returned (.bool b)/\Below w.heap.size w w'):=by
 obtain⟨b,ci,cp⟩:=znS wd cs ls fs hS.1
 have ev:(b && decide (es.length<=12) && decide (ns.length<=12) && (decide (es.length<=20) && zki cs.length es) && (decide (ns.length<=20) && zki cs.length ns))=((decide (es.length<=12) && zki cs.length es) && (decide (ns.length<=12) && zki cs.length ns) && b):=by
  by_cases h1:es.length<=12
  ·by_cases h2:ns.length<=12
   ·have h3:es.length<=20:=by omega
    have h4:ns.length<=20:=by omega
    simp only[h1,h2,h3,h4,decide_true,Bool.true_and,Bool.and_true]
    cases b <;> cases zki cs.length es <;> cases zki cs.length ns <;> rfl
   ·simp[h2]
  ·simp[h1]
 refine⟨_,fun g l f p x gc lc fc pc xc w h=>zft wd g l f p x gc lc fc pc xc cs ls fs es ns w h (fun w1 he=>zfo wd g p gc pc cs.length es w1 he hS.1.1 hS.2.1) (fun w1 he=>zfo wd g x gc xc cs.length ns w1 he hS.1.1 hS.2.2) (fun w1 hs=>ci g l f gc lc fc w1 hs),fun g l f p x gc lc fc pc xc w h=>?_⟩
 rw[<- ev]
 exact zfM wd g l f p x gc lc fc pc xc cs ls fs es ns w h (fun w1 he=>zeC wd g p gc pc cs.length es w1 he hS.1.1 hS.2.1) (fun w1 he=>zeC wd g x gc xc cs.length ns w1 he hS.1.1 hS.2.2) (fun w1 hs=>cp g l f gc lc fc w1 hs)
set_option maxRecDepth 100000 in
theorem zhf(wd:Int)(g l f p x:Option Addr)(gc lc fc pc xc:Nat)(cs:List (Int × Int))(ls:List Int)(fs:List (List Int))(es ns:List (Int × Int × Int))(w:World)(hM:AlM w g l f p x cs ls fs es ns)(hF:zmi cs ls fs es ns) :
  Calls SqP.prog 5 #[.agg #[.int .i64 wd,.slice g cs.length gc,.slice l ls.length lc,.slice f fs.length fc,.slice p es.length pc,.slice x ns.length xc]] w fun e w'=>e=.returned (.bool true)/\Below w.heap.size w w':=by
 obtain⟨w1,hw1⟩:∃ w1,w1=w.alloc (.cells #[.int .i64 wd,.slice g cs.length gc,.slice l ls.length lc,.slice f fs.length fc,.slice p es.length pc,.slice x ns.length xc] 50):=⟨_,rfl⟩
 obtain⟨x1,B1⟩:=zaU (.cells #[.int .i64 wd,.slice g cs.length gc,.slice l ls.length lc,.slice f fs.length fc,.slice p es.length pc,.slice x ns.length xc] 50) w
 rw[<- hw1] at x1 B1
 go_enter SqP.func5,Tryz.ntmps5
 go_upto_region 1 with fail
 rw[<- hw1]
 obtain⟨c0,c1,c2,c3,c4,c5⟩:=zdt x1
 clear hw1 x1
 have HM:Hid (AlM w g l f p x cs ls fs es ns):=hM
 go_wp2_with fail
 refine(zjU wd g l f p x gc lc fc pc xc cs ls fs es ns 1048576 w1 (hM.1.2.2.below B1) hF (by omega)).mono ?_
 rintro e w2 ⟨r,rfl,hr,hb⟩
 have B2:Below w.heap.size w w2:=zai B1 B1.size hb
 replace c0:=zab hb c0;replace c1:=zab hb c1;replace c2:=zab hb c2;replace c3:=zab hb c3;replace c4:=zab hb c4;replace c5:=zab hb c5
 clear hb B1 hM
 rcases hr with hr|⟨hr,hS⟩
 ·go_wp2_with fail
  go_ret
  exact⟨rfl,B2⟩
 have hn:¬ r<0:=by omega
 obtain⟨b,ci,cp⟩:=zmk wd cs ls fs es ns hS
 have CI:Hid (∀(g l f p x:Option Addr) (gc lc fc pc xc:Nat) (w:World),AlM w g l f p x cs ls fs es ns->Calls SqP.prog 19 #[.agg #[.int .i64 wd,.slice g cs.length gc,.slice l ls.length lc,.slice f fs.length fc,.slice p es.length pc,.slice x ns.length xc]] w fun e w'=>e=.returned (.bool b)/\Below w.heap.size w w'):=ci
 have CP:Hid (∀(g l f p x:Option Addr) (gc lc fc pc xc:Nat) (w:World),AlM w g l f p x cs ls fs es ns->Calls SqP.prog 17 #[.agg #[.int .i64 wd,.slice g cs.length gc,.slice l ls.length lc,.slice f fs.length fc,.slice p es.length pc,.slice x ns.length xc]] w fun e w'=>e=.returned (.bool b)/\Below w.heap.size w w'):=cp
 have HS:Hid (zgy cs ls fs es ns):=hS
 have hne:(b != b)=false:=by simp
 clear hr ci cp hF hS
 go_wp2_with fail
 refine(zdv wd g l f p x gc lc fc pc xc cs ls fs es ns w2 (HM.out.below B2) HS.out).mono ?_
 rintro e w3 ⟨g1,l1,f1,p1,x1,rfl,hM3,hb⟩
 have B3:Below w.heap.size w w3:=zai B2 B2.size hb
 replace c0:=zab hb c0;replace c1:=zab hb c1;replace c2:=zab hb c2;replace c3:=zab hb c3;replace c4:=zab hb c4;replace c5:=zab hb c5
 clear hb B2
 go_wp2_with fail
 refine(CP.out _ _ _ _ _ _ _ _ _ _ w3 hM3).mono ?_
 rintro e w4 ⟨rfl,hb⟩
 have B4:Below w.heap.size w w4:=zai B3 B3.size hb
 replace c0:=zab hb c0;replace c1:=zab hb c1;replace c2:=zab hb c2;replace c3:=zab hb c3;replace c4:=zab hb c4;replace c5:=zab hb c5
 clear hb B3 hM3
 go_wp2_with fail
 refine(zdv wd g l f p x gc lc fc pc xc cs ls fs es ns w4 (HM.out.below B4) HS.out).mono ?_
 rintro e w5 ⟨gx,lx,fx,px,xx,rfl,hM5,hb⟩
 have B5:Below w.heap.size w w5:=zai B4 B4.size hb
 replace c0:=zab hb c0;replace c1:=zab hb c1;replace c2:=zab hb c2;replace c3:=zab hb c3;replace c4:=zab hb c4;replace c5:=zab hb c5
 clear hb B4
 obtain⟨y1,hb6⟩:=zaU (.cells #[.int .i64 wd,.slice (some ⟨gx,0,none⟩) cs.length cs.length,.slice (some ⟨lx,0,none⟩) ls.length ls.length,.slice (some ⟨fx,0,none⟩) fs.length fs.length,.slice (some ⟨px,0,none⟩) es.length es.length,.slice (some ⟨xx,0,none⟩) ns.length ns.length] 55) w5
 have Y6:Hid ((w5.alloc (.cells #[.int .i64 wd,.slice (some ⟨gx,0,none⟩) cs.length cs.length,.slice (some ⟨lx,0,none⟩) ls.length ls.length,.slice (some ⟨fx,0,none⟩) fs.length fs.length,.slice (some ⟨px,0,none⟩) es.length es.length,.slice (some ⟨xx,0,none⟩) ns.length ns.length] 55)).heap[w5.heap.size]?=some (.cells #[.int .i64 wd,.slice (some ⟨gx,0,none⟩) cs.length cs.length,.slice (some ⟨lx,0,none⟩) ls.length ls.length,.slice (some ⟨fx,0,none⟩) fs.length fs.length,.slice (some ⟨px,0,none⟩) es.length es.length,.slice (some ⟨xx,0,none⟩) ns.length ns.length] 55)):=y1
 have B6:Hid (Below w.heap.size w (w5.alloc (.cells #[.int .i64 wd,.slice (some ⟨gx,0,none⟩) cs.length cs.length,.slice (some ⟨lx,0,none⟩) ls.length ls.length,.slice (some ⟨fx,0,none⟩) fs.length fs.length,.slice (some ⟨px,0,none⟩) es.length es.length,.slice (some ⟨xx,0,none⟩) ns.length ns.length] 55))):=zai B5 B5.size hb6
 have M6:Hid (AlM (w5.alloc (.cells #[.int .i64 wd,.slice (some ⟨gx,0,none⟩) cs.length cs.length,.slice (some ⟨lx,0,none⟩) ls.length ls.length,.slice (some ⟨fx,0,none⟩) fs.length fs.length,.slice (some ⟨px,0,none⟩) es.length es.length,.slice (some ⟨xx,0,none⟩) ns.length ns.length] 55)) (some ⟨gx,0,none⟩) (some ⟨lx,0,none⟩) (some ⟨fx,0,none⟩) (some ⟨px,0,none⟩) (some ⟨xx,0,none⟩) cs ls fs es ns):=hM5.below hb6
 have e0:=zab hb6 c0
 have e1:=zab hb6 c1
 have e2:=zab hb6 c2
 have e3:=zab hb6 c3
 have e4:=zab hb6 c4
 have e5:=zab hb6 c5
 clear y1 hb6 hM5 c0 c1 c2 c3 c4 c5
 go_upto_region 7 with fail
 obtain⟨w6,hw6⟩:∃ w6,w6=w5.alloc (.cells #[.int .i64 wd,.slice (some ⟨gx,0,none⟩) cs.length cs.length,.slice (some ⟨lx,0,none⟩) ls.length ls.length,.slice (some ⟨fx,0,none⟩) fs.length fs.length,.slice (some ⟨px,0,none⟩) es.length es.length,.slice (some ⟨xx,0,none⟩) ns.length ns.length] 55):=⟨_,rfl⟩
 rw[<- hw6] at Y6 B6 M6 e0 e1 e2 e3 e4 e5 ⊢
 clear hw6 B5
 obtain⟨d0,d1,d2,d3,d4,d5⟩:=zdt Y6.out
 go_wp2_with fail
 refine(CI.out _ _ _ _ _ _ _ _ _ _ w6 M6.out).mono ?_
 rintro e w7 ⟨rfl,hb⟩
 have B7:Below w.heap.size w w7:=zai B6.out B6.out.size hb
 have M7:AlM w7 (some ⟨gx,0,none⟩) (some ⟨lx,0,none⟩) (some ⟨fx,0,none⟩) (some ⟨px,0,none⟩) (some ⟨xx,0,none⟩) cs ls fs es ns:=M6.out.below hb
 have c0:=zab hb e0
 have c1:=zab hb e1
 have c2:=zab hb e2
 have c3:=zab hb e3
 have c4:=zab hb e4
 have c5:=zab hb e5
 replace d0:=zab hb d0;replace d1:=zab hb d1;replace d2:=zab hb d2;replace d3:=zab hb d3;replace d4:=zab hb d4;replace d5:=zab hb d5
 clear hb Y6 B6 M6 e0 e1 e2 e3 e4 e5 CI CP
 go_wp2
 go_region_held3 (fun w'=>w'.cell? ⟨w5.heap.size,0,none⟩=some (.int .i64 wd)/\w'.cell? ⟨w5.heap.size,1,none⟩=some (.slice (some ⟨gx,0,none⟩) cs.length cs.length)/\w'.cell? ⟨w5.heap.size,2,none⟩=some (.slice (some ⟨lx,0,none⟩) ls.length ls.length)/\w'.cell? ⟨w5.heap.size,3,none⟩=some (.slice (some ⟨fx,0,none⟩) fs.length fs.length)/\w'.cell? ⟨w5.heap.size,4,none⟩=some (.slice (some ⟨px,0,none⟩) es.length es.length)/\w'.cell? ⟨w5.heap.size,5,none⟩=some (.slice (some ⟨xx,0,none⟩) ns.length ns.length)/\w'.cell? ⟨w.heap.size,0,none⟩=some (.int .i64 wd)/\w'.cell? ⟨w.heap.size,1,none⟩=some (.slice g cs.length gc)/\w'.cell? ⟨w.heap.size,2,none⟩=some (.slice l ls.length lc)/\w'.cell? ⟨w.heap.size,3,none⟩=some (.slice f fs.length fc)/\w'.cell? ⟨w.heap.size,4,none⟩=some (.slice p es.length pc)/\w'.cell? ⟨w.heap.size,5,none⟩=some (.slice x ns.length xc))
  (first
   | exact⟨zab hb8 (zab hb7 d0),zab hb8 (zab hb7 d1),zab hb8 (zab hb7 d2),zab hb8 (zab hb7 d3),zab hb8 (zab hb7 d4),zab hb8 (zab hb7 d5),zab hb8 (zab hb7 c0),zab hb8 (zab hb7 c1),zab hb8 (zab hb7 c2),zab hb8 (zab hb7 c3),zab hb8 (zab hb7 c4),zab hb8 (zab hb7 c5)⟩
   | exact⟨zab hb7 d0,zab hb7 d1,zab hb7 d2,zab hb7 d3,zab hb7 d4,zab hb7 d5,zab hb7 c0,zab hb7 c1,zab hb7 c2,zab hb7 c3,zab hb7 c4,zab hb7 c5⟩
   | exact⟨d0,d1,d2,d3,d4,d5,c0,c1,c2,c3,c4,c5⟩
   | go_keep)
  (first
   | (go_at_call 18;refine(zdv wd g l f p x gc lc fc pc xc cs ls fs es ns _ (HM.out.below (by first|exact B7|exact B7.drew)) HS.out).mono ?_;rintro e w8 ⟨gy,ly,fy,py,xy,rfl,hM8,hb7'⟩;have hb7:Below w7.heap.size w7 w8:=(by first|exact hb7'|exact zbH hb7'))
   | (go_at_call 20;refine(zmL (M7.below hb7) hM8 HS.out).mono ?_;rintro e w9 ⟨rfl,hb8'⟩;have hb8:Below w8.heap.size w8 w9:=(by first|exact hb8'|exact zbH hb8'))
   | fail)
 all_goals
  have B9:Below w.heap.size w w9:=zai B7 B7.size (zai hb7 hb7.size hb8)
  go_wp2_with fail
  go_ret
  exact⟨rfl,by first|exact B9|exact B9.drew⟩
