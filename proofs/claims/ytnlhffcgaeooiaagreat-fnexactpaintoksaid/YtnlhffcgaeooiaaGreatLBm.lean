/- Part. -/
import Derived.Test.YtnlhffcgaeooiaaGreatLBk
set_option maxHeartbeats 4000000
set_option linter.unusedVariables false
namespace Go.Proofs.YtnlhffcgaeooiaaGreat
variable{va vo vr:Array Value}{b:Bool}{cs:List (Int × Int)}{fs:List (List Int)}{ls:List Int}{B:Nat}{w:World}
namespace Sp
open Go.RowKit
attribute [local go_sem ↓] Go.wp_at_zero Go.wp_at_succ
theorem zeN{b:Nat}{v0 v1 v2 v3 v4 v5 v6:Value}{t:TypeId}(h:w.heap[b]?=some (.cells #[v0,v1,v2,v3,v4,v5,v6] t)):w.cell? ⟨b,0,none⟩=some v0/\w.cell? ⟨b,1,none⟩=some v1/\w.cell? ⟨b,2,none⟩=some v2/\w.cell? ⟨b,3,none⟩=some v3/\w.cell? ⟨b,4,none⟩=some v4/\w.cell? ⟨b,5,none⟩=some v5/\w.cell? ⟨b,6,none⟩=some v6 :=
 ⟨(cell_of_row _ _ 0 _ _ _ h).trans rfl,(cell_of_row _ _ 1 _ _ _ h).trans rfl,(cell_of_row _ _ 2 _ _ _ h).trans rfl,(cell_of_row _ _ 3 _ _ _ h).trans rfl,(cell_of_row _ _ 4 _ _ _ h).trans rfl,(cell_of_row _ _ 5 _ _ _ h).trans rfl,(cell_of_row _ _ 6 _ _ _ h).trans rfl⟩
theorem zhD(up has:Bool)(ver wd:Int)(g l f:Option Addr)(gc lc fc:Nat)(cs:List (Int × Int))(ls:List Int)(fs:List (List Int))(left:Int)(w:World)(h:zdo w f fs)(hS:Fits cs ls fs)(hl:0<=left/\left<=1048576) :
  Calls SqP.prog 11 #[.agg #[.bool up,.bool has,.int .i64 ver,.int .i64 wd,.slice g cs.length gc,.slice l ls.length lc,.slice f fs.length fc],.int .i64 left] w fun e w'=>∃ r:Int,e=.returned (.int .i64 r)/\(r<0\/(0<=r/\r<=left)/\zct cs ls fs)/\Below w.heap.size w w':=by
 have hb:Below w.heap.size w (w.alloc (.cells #[.bool up,.bool has,.int .i64 ver,.int .i64 wd,.slice g cs.length gc,.slice l ls.length lc,.slice f fs.length fc] 40)):=bel
 have hC:=zf2 wd g l f gc lc fc cs ls fs left (w.alloc (.cells #[.bool up,.bool has,.int .i64 ver,.int .i64 wd,.slice g cs.length gc,.slice l ls.length lc,.slice f fs.length fc] 40)) (h.below hb) hS hl
 clear h hS
 go_enter SqP.func11,Tryz.ntmps11
 go_wp2_with fail
 refine hC.mono ?_
 rintro e w1 ⟨r,rfl,hr,hb1⟩
 have hB:Below w.heap.size w w1:=zaj hb hb.size hb1
 clear hC hb1
 rcases hr with hr|⟨hr,hS⟩
 ·go_wp2_with fail
  go_ret
  exact⟨_,rfl,.inl (by omega),hB⟩
 ·have hn:¬ r<0:=by omega
  have HS:Hid (zct cs ls fs):=hS
  clear hS
  go_wp2_with fail
  go_ret
  exact⟨_,rfl,.inr ⟨by omega,HS.out⟩,hB⟩
structure CpP(w:World)(B:Nat)(va vr vo:Array Value):Prop where
 a:w.heap[B]?=some (.cells va 40)
 r:w.heap[B+1]?=some (.cells vr 44)
 o:w.heap[B+2]?=some (.cells vo 44)
theorem CpP.on{w':World}(h:CpP w B va vr vo)(hb:Below w.heap.size w w'):CpP w' B va vr vo :=
 ⟨(hb.block _ (gei h.a).1).trans h.a,(hb.block _ (gei h.r).1).trans h.r,(hb.block _ (gei h.o).1).trans h.o⟩
theorem CpP.put(h:CpP w B va vr vo)(i:Nat)(v:Value):CpP (w.setCell ⟨B+2,i,none⟩ v) B va vr (vo.setIfInBounds i v) :=
 ⟨(Below.heap_setCell _ _ _ _ (by show B≠B+2;omega)).trans h.a,(Below.heap_setCell _ _ _ _ (by show B+1≠B+2;omega)).trans h.r,heap_setCell_same _ _ _ _ _ _ h.o⟩
theorem ScN.put{lo b i g1 g2 g3:Nat}(h:ScN w lo g1 g2 g3 cs ls fs)(hb:b<lo)(v:Value):ScN (w.setCell ⟨b,i,none⟩ v) lo g1 g2 g3 cs ls fs :=
 h.move (by simp) fun k hk _=>Below.heap_setCell _ _ _ _ (by show k≠b;omega)
set_option maxRecDepth 100000 in
theorem zcC(up has:Bool)(ver wd:Int)(g l f:Option Addr)(gc lc fc:Nat)(cs:List (Int × Int))(ls:List Int)(fs:List (List Int))(w:World)(hM:ScM w g l f cs ls fs)(hS:zct cs ls fs) :
  Calls SqP.prog 13 #[.agg #[.bool up,.bool has,.int .i64 ver,.int .i64 wd,.slice g cs.length gc,.slice l ls.length lc,.slice f fs.length fc]] w fun e w'=>∃ g1 g2 g3,e=.returned (.agg #[.bool up,.bool has,.int .i64 ver,.int .i64 wd,.slice (some ⟨g1,0,none⟩) cs.length cs.length,.slice (some ⟨g2,0,none⟩) ls.length ls.length,.slice (some ⟨g3,0,none⟩) fs.length fs.length])/\ScM w' (some ⟨g1,0,none⟩) (some ⟨g2,0,none⟩) (some ⟨g3,0,none⟩) cs ls fs/\Below w.heap.size w w':=by
 obtain⟨w2,hw2⟩:∃ w2,w2=((w.alloc (.cells #[.bool up,.bool has,.int .i64 ver,.int .i64 wd,.slice g cs.length gc,.slice l ls.length lc,.slice f fs.length fc] 40)).alloc (.cells #[.bool false,.bool false,.int .i64 0,.int .i64 0,.slice none 0 0,.slice none 0 0,.slice none 0 0] 44)).alloc (.cells #[.bool false,.bool false,.int .i64 0,.int .i64 0,.slice none 0 0,.slice none 0 0,.slice none 0 0] 44):=⟨_,rfl⟩
 obtain⟨x1,x2,x3,hz2,hb2⟩:=zeI (.cells #[.bool up,.bool has,.int .i64 ver,.int .i64 wd,.slice g cs.length gc,.slice l ls.length lc,.slice f fs.length fc] 40) (.cells #[.bool false,.bool false,.int .i64 0,.int .i64 0,.slice none 0 0,.slice none 0 0,.slice none 0 0] 44) (.cells #[.bool false,.bool false,.int .i64 0,.int .i64 0,.slice none 0 0,.slice none 0 0,.slice none 0 0] 44) w
 rw[<- hw2] at x1 x2 x3 hz2 hb2
 have K2:CpP w2 w.heap.size #[.bool up,.bool has,.int .i64 ver,.int .i64 wd,.slice g cs.length gc,.slice l ls.length lc,.slice f fs.length fc] #[.bool false,.bool false,.int .i64 0,.int .i64 0,.slice none 0 0,.slice none 0 0,.slice none 0 0] #[.bool false,.bool false,.int .i64 0,.int .i64 0,.slice none 0 0,.slice none 0 0,.slice none 0 0]:=⟨x1,x2,x3⟩
 have B2:Hid (Below w.heap.size w w2):=hb2
 have HI:Hid (ScM w g l f cs ls fs/\zct cs ls fs):=⟨hM,hS⟩
 clear x1 x2 x3 hb2 hM hS
 obtain⟨N,hN⟩:∃ N,cs.length=N:=⟨_,rfl⟩
 obtain⟨P,hP⟩:∃ P,ls.length=P:=⟨_,rfl⟩
 obtain⟨R,hR⟩:∃ R,fs.length=R:=⟨_,rfl⟩
 have HC:Hid (∀ w1:World,Below w.heap.size w w1->Calls SqP.prog 8 #[.agg #[.int .i64 wd,.slice g N gc,.slice l P lc,.slice f R fc]] w1 fun e w'=>∃ g1 g2 g3,e=.returned (.agg #[.int .i64 wd,.slice (some ⟨g1,0,none⟩) N N,.slice (some ⟨g2,0,none⟩) P P,.slice (some ⟨g3,0,none⟩) R R])/\ScN w' w1.heap.size g1 g2 g3 cs ls fs/\Below w1.heap.size w1 w'):=fun w1 hb=>by
  have:=zf6 wd g l f gc lc fc cs ls fs w1 (HI.out.1.below hb) HI.out.2
  rw[hN,hP,hR] at this
  exact this
 rw[hN,hP,hR] at K2 hw2 ⊢
 clear hN hP hR
 obtain⟨c0,c1,c2,c3,c4,c5,c6⟩:=zeN K2.a
 obtain⟨o0,o1,o2,o3,o4,o5,o6⟩:=zeN K2.o
 have t0:=thaw K2.o 0
 have t1:=thaw K2.o 1
 have t2:=thaw K2.o 2
 have K5:Hid (CpP (((w2.setCell ⟨w.heap.size+2,0,none⟩ (.bool up)).setCell ⟨w.heap.size+2,1,none⟩ (.bool has)).setCell ⟨w.heap.size+2,2,none⟩ (.int .i64 ver)) w.heap.size #[.bool up,.bool has,.int .i64 ver,.int .i64 wd,.slice g N gc,.slice l P lc,.slice f R fc] #[.bool false,.bool false,.int .i64 0,.int .i64 0,.slice none 0 0,.slice none 0 0,.slice none 0 0] #[.bool up,.bool has,.int .i64 ver,.int .i64 0,.slice none 0 0,.slice none 0 0,.slice none 0 0]):=((K2.put 0 _).put 1 _).put 2 _
 have B5:Hid (Below w.heap.size w (((w2.setCell ⟨w.heap.size+2,0,none⟩ (.bool up)).setCell ⟨w.heap.size+2,1,none⟩ (.bool has)).setCell ⟨w.heap.size+2,2,none⟩ (.int .i64 ver))):=((B2.out.setCell (p:=⟨w.heap.size+2,0,none⟩) (by show w.heap.size<=w.heap.size+2;omega) _).setCell (p:=⟨w.heap.size+2,1,none⟩) (by show w.heap.size<=w.heap.size+2;omega) _).setCell (p:=⟨w.heap.size+2,2,none⟩) (by show w.heap.size<=w.heap.size+2;omega) _
 have z5:Hid (w2.heap.size=(((w2.setCell ⟨w.heap.size+2,0,none⟩ (.bool up)).setCell ⟨w.heap.size+2,1,none⟩ (.bool has)).setCell ⟨w.heap.size+2,2,none⟩ (.int .i64 ver)).heap.size):=by show _=_;simp
 go_enter SqP.func13,Tryz.ntmps13
 go_upto_region 2 with fail
 rw[<- hw2]
 clear hw2 K2
 go_upto_region 5 with fail
 obtain⟨w5,hw5⟩:∃ w5,w5=(((w2.setCell ⟨w.heap.size+2,0,none⟩ (.bool up)).setCell ⟨w.heap.size+2,1,none⟩ (.bool has)).setCell ⟨w.heap.size+2,2,none⟩ (.int .i64 ver)):=⟨_,rfl⟩
 rw[<- hw5] at K5 B5 z5 ⊢
 clear hw5 c0 c1 c2 c3 c4 c5 c6 o0 o1 o2 o3 o4 o5 o6 t0 t1 t2 B2
 obtain⟨c0,c1,c2,c3,c4,c5,c6⟩:=zeN K5.out.a
 go_wp2_with fail
 refine(HC.out w5 B5.out).mono ?_
 rintro e w6 ⟨g1,g2,g3,rfl,hO,hb6⟩
 have K6:=K5.out.on hb6
 have B6:Hid (Below w.heap.size w w6):=zaj B5.out B5.out.size hb6
 have z6:=hb6.size
 have hlo:w.heap.size+2<w5.heap.size:=by have:=z5.out;omega
 obtain⟨o0,o1,o2,o3,o4,o5,o6⟩:=zeN K6.o
 have t3:=thaw K6.o 3
 have t4:=thaw K6.o 4
 have t5:=thaw K6.o 5
 have t6:=thaw K6.o 6
 clear c0 c1 c2 c3 c4 c5 c6 hb6 K5 B5 HC
 have K7:Hid (CpP ((((w6.setCell ⟨w.heap.size+2,3,none⟩ (.int .i64 wd)).setCell ⟨w.heap.size+2,4,none⟩ (.slice (some ⟨g1,0,none⟩) N N)).setCell ⟨w.heap.size+2,5,none⟩ (.slice (some ⟨g2,0,none⟩) P P)).setCell ⟨w.heap.size+2,6,none⟩ (.slice (some ⟨g3,0,none⟩) R R)) w.heap.size #[.bool up,.bool has,.int .i64 ver,.int .i64 wd,.slice g N gc,.slice l P lc,.slice f R fc] #[.bool false,.bool false,.int .i64 0,.int .i64 0,.slice none 0 0,.slice none 0 0,.slice none 0 0] #[.bool up,.bool has,.int .i64 ver,.int .i64 wd,.slice (some ⟨g1,0,none⟩) N N,.slice (some ⟨g2,0,none⟩) P P,.slice (some ⟨g3,0,none⟩) R R]):=(((K6.put 3 _).put 4 _).put 5 _).put 6 _
 have M7:Hid (ScN ((((w6.setCell ⟨w.heap.size+2,3,none⟩ (.int .i64 wd)).setCell ⟨w.heap.size+2,4,none⟩ (.slice (some ⟨g1,0,none⟩) N N)).setCell ⟨w.heap.size+2,5,none⟩ (.slice (some ⟨g2,0,none⟩) P P)).setCell ⟨w.heap.size+2,6,none⟩ (.slice (some ⟨g3,0,none⟩) R R)) w5.heap.size g1 g2 g3 cs ls fs):=(((hO.put hlo _).put hlo _).put hlo _).put hlo _
 have B7:Hid (Below w.heap.size w ((((w6.setCell ⟨w.heap.size+2,3,none⟩ (.int .i64 wd)).setCell ⟨w.heap.size+2,4,none⟩ (.slice (some ⟨g1,0,none⟩) N N)).setCell ⟨w.heap.size+2,5,none⟩ (.slice (some ⟨g2,0,none⟩) P P)).setCell ⟨w.heap.size+2,6,none⟩ (.slice (some ⟨g3,0,none⟩) R R))):=(((B6.out.setCell (p:=⟨w.heap.size+2,3,none⟩) (by show w.heap.size<=w.heap.size+2;omega) _).setCell (p:=⟨w.heap.size+2,4,none⟩) (by show w.heap.size<=w.heap.size+2;omega) _).setCell (p:=⟨w.heap.size+2,5,none⟩) (by show w.heap.size<=w.heap.size+2;omega) _).setCell (p:=⟨w.heap.size+2,6,none⟩) (by show w.heap.size<=w.heap.size+2;omega) _
 clear K6 hO
 go_upto_region 6 with fail
 obtain⟨w7,hw7⟩:∃ w7,w7=((((w6.setCell ⟨w.heap.size+2,3,none⟩ (.int .i64 wd)).setCell ⟨w.heap.size+2,4,none⟩ (.slice (some ⟨g1,0,none⟩) N N)).setCell ⟨w.heap.size+2,5,none⟩ (.slice (some ⟨g2,0,none⟩) P P)).setCell ⟨w.heap.size+2,6,none⟩ (.slice (some ⟨g3,0,none⟩) R R)):=⟨_,rfl⟩
 rw[<- hw7] at K7 B7 M7 ⊢
 clear hw7 o0 o1 o2 o3 o4 o5 o6 t3 t4 t5 t6 B6
 obtain⟨c0,c1,c2,c3,c4,c5,c6⟩:=zeN K7.out.o
 obtain⟨q0,q1,q2,q3,q4,q5,q6⟩:=zeN K7.out.r
 have t0:=thaw K7.out.r 0
 have t1:=thaw K7.out.r 1
 have t2:=thaw K7.out.r 2
 have t3:=thaw K7.out.r 3
 have t4:=thaw K7.out.r 4
 have t5:=thaw K7.out.r 5
 have t6:=thaw K7.out.r 6
 have hlo1:w.heap.size+1<w5.heap.size:=by omega
 go_wp2_with fail
 refine bodyPost_ret (v:=.agg #[.bool up,.bool has,.int .i64 ver,.int .i64 wd,.slice (some ⟨g1,0,none⟩) N N,.slice (some ⟨g2,0,none⟩) P P,.slice (some ⟨g3,0,none⟩) R R]) (by simp[results,Tryz.results13,go_sem,q0,q1,q2,q3,q4,q5,q6]) rfl ⟨g1,g2,g3,rfl,?_,?_⟩
 ·exact(((((((M7.out.put hlo1 _).put hlo1 _).put hlo1 _).put hlo1 _).put hlo1 _).put hlo1 _).put hlo1 _).m
 ·exact((((((B7.out.setCell (p:=⟨w.heap.size+1,0,none⟩) (by show w.heap.size<=w.heap.size+1;omega) _).setCell (p:=⟨w.heap.size+1,1,none⟩) (by show w.heap.size<=w.heap.size+1;omega) _).setCell (p:=⟨w.heap.size+1,2,none⟩) (by show w.heap.size<=w.heap.size+1;omega) _).setCell (p:=⟨w.heap.size+1,3,none⟩) (by show w.heap.size<=w.heap.size+1;omega) _).setCell (p:=⟨w.heap.size+1,4,none⟩) (by show w.heap.size<=w.heap.size+1;omega) _).setCell (p:=⟨w.heap.size+1,5,none⟩) (by show w.heap.size<=w.heap.size+1;omega) _).setCell (p:=⟨w.heap.size+1,6,none⟩) (by show w.heap.size<=w.heap.size+1;omega) _
theorem zjf{up has:Bool}{ver wd:Int}{g l f g2 l2 f2:Option Addr}{gc lc fc gc2 lc2 fc2:Nat}(h:ScM w g l f cs ls fs)(h2:ScM w g2 l2 f2 cs ls fs)(hS:zct cs ls fs) :
  Calls SqP.prog 15 #[.agg #[.bool up,.bool has,.int .i64 ver,.int .i64 wd,.slice g cs.length gc,.slice l ls.length lc,.slice f fs.length fc],.agg #[.bool up,.bool has,.int .i64 ver,.int .i64 wd,.slice g2 cs.length gc2,.slice l2 ls.length lc2,.slice f2 fs.length fc2]] w fun e w'=>e=.returned (.bool true)/\Below w.heap.size w w':=by
 obtain⟨w2,hw2⟩:∃ w2,w2=(w.alloc (.cells #[.bool up,.bool has,.int .i64 ver,.int .i64 wd,.slice g cs.length gc,.slice l ls.length lc,.slice f fs.length fc] 44)).alloc (.cells #[.bool up,.bool has,.int .i64 ver,.int .i64 wd,.slice g2 cs.length gc2,.slice l2 ls.length lc2,.slice f2 fs.length fc2] 44):=⟨_,rfl⟩
 obtain⟨x1,x2,hb2⟩:=zgW (.cells #[.bool up,.bool has,.int .i64 ver,.int .i64 wd,.slice g cs.length gc,.slice l ls.length lc,.slice f fs.length fc] 44) (.cells #[.bool up,.bool has,.int .i64 ver,.int .i64 wd,.slice g2 cs.length gc2,.slice l2 ls.length lc2,.slice f2 fs.length fc2] 44) w
 rw[<- hw2] at x1 x2 hb2
 have H2:Hid (Below w.heap.size w w2):=hb2
 have X2:Hid (w2.heap[w.heap.size]?=some (.cells #[.bool up,.bool has,.int .i64 ver,.int .i64 wd,.slice g cs.length gc,.slice l ls.length lc,.slice f fs.length fc] 44)/\w2.heap[w.heap.size+1]?=some (.cells #[.bool up,.bool has,.int .i64 ver,.int .i64 wd,.slice g2 cs.length gc2,.slice l2 ls.length lc2,.slice f2 fs.length fc2] 44)):=⟨x1,x2⟩
 have HE:=zhZ (wd:=wd) (gc:=gc) (lc:=lc) (fc:=fc) (gc2:=gc2) (lc2:=lc2) (fc2:=fc2) (h.below hb2) (h2.below hb2) hS
 clear h h2 hS x1 x2 hb2
 obtain⟨N,hN⟩:∃ N,cs.length=N:=⟨_,rfl⟩
 obtain⟨P,hP⟩:∃ P,ls.length=P:=⟨_,rfl⟩
 obtain⟨R,hR⟩:∃ R,fs.length=R:=⟨_,rfl⟩
 rw[hN,hP,hR] at HE X2 hw2 ⊢
 clear hN hP hR
 have e1:(up != up)=false:=by simp
 have e2:(has != has)=false:=by simp
 have e3:(ver != ver)=false:=by simp
 go_enter SqP.func15,Tryz.ntmps15
 go_upto_region 1 with fail
 rw[<- hw2]
 clear hw2
 obtain⟨c0,c1,c2,c3,c4,c5,c6⟩:=zeN X2.out.1
 obtain⟨d0,d1,d2,d3,d4,d5,d6⟩:=zeN X2.out.2
 clear X2
 go_wp2_with fail
 refine HE.mono ?_
 rintro e w3 ⟨rfl,hb⟩
 have H3:Hid (Below w.heap.size w w3):=zaj H2.out H2.out.size hb
 clear hb HE c0 c1 c2 c3 c4 c5 c6 d0 d1 d2 d3 d4 d5 d6 H2
 go_wp2_with fail
 go_ret
 exact⟨rfl,H3.out⟩
theorem zhn(wd:Int)(g l f:Option Addr)(gc lc fc N P R:Nat)(w:World) :
  Calls SqP.prog 37 #[.agg #[.int .i64 wd,.slice g N gc,.slice l P lc,.slice f R fc]] w fun e w'=>e=.returned (.bool (decide (wd=0/\N=0/\P=0/\R=0)))/\Below w.heap.size w w':=by
 by_cases h0:wd=0
 ·have b0:(wd == 0)=true:=by simp[h0]
  by_cases h1:N=0
  ·have b1:((N:Int) == 0)=true:=by simp[h1]
   by_cases h2:P=0
   ·have b2:((P:Int) == 0)=true:=by simp[h2]
    by_cases h3:R=0
    ·subst h0 h1 h2 h3
     go_enter SqP.func37,Tryz.ntmps37
     go_wp2_with fail
     go_ret
     exact⟨by simp,bel⟩
    ·subst h0 h1 h2
     have b3:((R:Int) == 0)=false:=by simp[h3]
     have HQ:Hid (¬ R=0):=h3
     clear h3
     go_enter SqP.func37,Tryz.ntmps37
     go_wp2_with fail
     go_ret
     exact⟨by have h:=HQ.out;simp[h],bel⟩
   ·subst h0 h1
    have b2:((P:Int) == 0)=false:=by simp[h2]
    have HQ:Hid (¬ P=0):=h2
    clear h2
    go_enter SqP.func37,Tryz.ntmps37
    go_wp2_with fail
    go_ret
    exact⟨by have h:=HQ.out;simp[h],bel⟩
  ·subst h0
   have b1:((N:Int) == 0)=false:=by simp[h1]
   have HQ:Hid (¬ N=0):=h1
   clear h1
   go_enter SqP.func37,Tryz.ntmps37
   go_wp2_with fail
   go_ret
   exact⟨by have h:=HQ.out;simp[h],bel⟩
 ·have b0:(wd == 0)=false:=by simp[h0]
  have HQ:Hid (¬ wd=0):=h0
  clear h0
  go_enter SqP.func37,Tryz.ntmps37
  go_wp2_with fail
  go_ret
  exact⟨by have h:=HQ.out;simp[h],bel⟩
theorem zjr(wd:Int)(g l f:Option Addr)(gc lc fc N P R:Nat)(w:World) :
  Calls SqP.prog 35 #[.agg #[.int .i64 wd,.slice g N gc,.slice l P lc,.slice f R fc]] w fun e w'=>e=.returned (.bool (decide (wd=0/\N=0/\P=0/\R=0)))/\Below w.heap.size w w':=by
 by_cases h0:wd=0
 ·have b0:(wd == 0)=true:=by simp[h0]
  by_cases h1:N=0
  ·have b1:((N:Int) == 0)=true:=by simp[h1]
   by_cases h2:P=0
   ·have b2:((P:Int) == 0)=true:=by simp[h2]
    by_cases h3:R=0
    ·subst h0 h1 h2 h3
     go_enter SqP.func35,Tryz.ntmps35
     go_wp2_with fail
     go_ret
     exact⟨by simp,bel⟩
    ·subst h0 h1 h2
     have b3:((R:Int) == 0)=false:=by simp[h3]
     have HQ:Hid (¬ R=0):=h3
     clear h3
     go_enter SqP.func35,Tryz.ntmps35
     go_wp2_with fail
     go_ret
     exact⟨by have h:=HQ.out;simp[h],bel⟩
   ·subst h0 h1
    have b2:((P:Int) == 0)=false:=by simp[h2]
    have HQ:Hid (¬ P=0):=h2
    clear h2
    go_enter SqP.func35,Tryz.ntmps35
    go_wp2_with fail
    go_ret
    exact⟨by have h:=HQ.out;simp[h],bel⟩
  ·subst h0
   have b1:((N:Int) == 0)=false:=by simp[h1]
   have HQ:Hid (¬ N=0):=h1
   clear h1
   go_enter SqP.func35,Tryz.ntmps35
   go_wp2_with fail
   go_ret
   exact⟨by have h:=HQ.out;simp[h],bel⟩
 ·have b0:(wd == 0)=false:=by simp[h0]
  have HQ:Hid (¬ wd=0):=h0
  clear h0
  go_enter SqP.func35,Tryz.ntmps35
  go_wp2_with fail
  go_ret
  exact⟨by have h:=HQ.out;simp[h],bel⟩
theorem zog(ver:Int)(w:World) :
  Calls SqP.prog 38 #[.int .i64 ver] w fun e w'=>e=.returned (.bool (decide (0<=ver/\ver<=60)))/\Below w.heap.size w w':=by
 by_cases h0:0<=ver
 ·by_cases h1:ver<=60
  ·have HQ:Hid (0<=ver/\ver<=60):=⟨h0,h1⟩
   go_enter SqP.func38,Tryz.ntmps38
   go_wp2_with fail
   go_ret
   exact⟨by have h:=HQ.out;simp;omega,bel⟩
  ·have HQ:Hid (0<=ver/\60<ver):=⟨h0,by omega⟩
   go_enter SqP.func38,Tryz.ntmps38
   go_wp2_with fail
   go_ret
   exact⟨by have h:=HQ.out;simp;omega,bel⟩
 ·have HQ:Hid (ver<0):=by show _<_;omega
  go_enter SqP.func38,Tryz.ntmps38
  go_wp2_with fail
  go_ret
  exact⟨by have h:=HQ.out;simp;omega,bel⟩
theorem zm6(ver:Int)(w:World) :
  Calls SqP.prog 36 #[.int .i64 ver,.int .i64 0,.int .i64 60] w fun e w'=>e=.returned (.bool (decide (0<=ver/\ver<=60)))/\Below w.heap.size w w':=by
 by_cases h0:0<=ver
 ·by_cases h1:ver<=60
  ·have HQ:Hid (0<=ver/\ver<=60):=⟨h0,h1⟩
   go_enter SqP.func36,Tryz.ntmps36
   go_wp2_with fail
   go_ret
   exact⟨by have h:=HQ.out;simp;omega,bel⟩
  ·have HQ:Hid (0<=ver/\60<ver):=⟨h0,by omega⟩
   go_enter SqP.func36,Tryz.ntmps36
   go_wp2_with fail
   go_ret
   exact⟨by have h:=HQ.out;simp;omega,bel⟩
 ·have HQ:Hid (ver<0):=by show _<_;omega
  go_enter SqP.func36,Tryz.ntmps36
  go_wp2_with fail
  go_ret
  exact⟨by have h:=HQ.out;simp;omega,bel⟩
set_option maxRecDepth 100000 in
theorem zfy(up has:Bool)(ver wd:Int)(g l f:Option Addr)(gc lc fc:Nat)(cs:List (Int × Int))(ls:List Int)(fs:List (List Int))(w:World)(hM:ScM w g l f cs ls fs)(hC:∀(g l f:Option Addr) (gc lc fc:Nat) (w:World),ScM w g l f cs ls fs->Calls SqP.prog 9 #[.agg #[.int .i64 wd,.slice g cs.length gc,.slice l ls.length lc,.slice f fs.length fc]] w fun e w'=>e=.returned (.bool b)/\Below w.heap.size w w') :
  Calls SqP.prog 14 #[.agg #[.bool up,.bool has,.int .i64 ver,.int .i64 wd,.slice g cs.length gc,.slice l ls.length lc,.slice f fs.length fc]] w fun e w'=>e=.returned (.bool (if has=true then up && decide (0<=ver/\ver<=60) && b else decide (ver=0) && decide (wd=0/\cs.length=0/\ls.length=0/\fs.length=0)))/\Below w.heap.size w w':=by
 obtain⟨w2,hw2⟩:∃ w2,w2=w.alloc (.cells #[.bool up,.bool has,.int .i64 ver,.int .i64 wd,.slice g cs.length gc,.slice l ls.length lc,.slice f fs.length fc] 44):=⟨_,rfl⟩
 obtain⟨x1,hb2⟩:=zbe (.cells #[.bool up,.bool has,.int .i64 ver,.int .i64 wd,.slice g cs.length gc,.slice l ls.length lc,.slice f fs.length fc] 44) w
 rw[<- hw2] at x1 hb2
 have H2:Hid (Below w.heap.size w w2):=hb2
 have HC:Hid (∀ w3,Below w2.heap.size w2 w3->Calls SqP.prog 9 #[.agg #[.int .i64 wd,.slice g cs.length gc,.slice l ls.length lc,.slice f fs.length fc]] w3 fun e w'=>e=.returned (.bool b)/\Below w3.heap.size w3 w'):=fun w3 hb3=>hC g l f gc lc fc w3 ((hM.below hb2).below hb3)
 clear hC hM hb2
 obtain⟨N,hN⟩:∃ N,cs.length=N:=⟨_,rfl⟩
 obtain⟨P,hP⟩:∃ P,ls.length=P:=⟨_,rfl⟩
 obtain⟨R,hR⟩:∃ R,fs.length=R:=⟨_,rfl⟩
 rw[hN,hP,hR] at HC x1 hw2 ⊢
 clear hN hP hR
 go_enter SqP.func14,Tryz.ntmps14
 go_upto_region 1 with fail
 rw[<- hw2]
 clear hw2
 obtain⟨c0,c1,c2,c3,c4,c5,c6⟩:=zeN x1
 clear x1
 rcases has with _|_
 ·clear HC
  by_cases hv:ver=0
  ·subst hv
   go_wp2_with fail
   refine(zhn wd g l f gc lc fc N P R w2).mono ?_
   rintro e w3 ⟨rfl,hb⟩
   have H3:Hid (Below w.heap.size w w3):=zaj H2.out H2.out.size hb
   clear hb
   obtain⟨q,eq⟩:∃ q,decide (wd=0/\N=0/\P=0/\R=0)=q:=⟨_,rfl⟩
   have HQ:Hid (decide (wd=0/\N=0/\P=0/\R=0)=q):=eq
   rw[eq]
   clear eq c0 c1 c2 c3 c4 c5 c6
   go_wp2_with fail
   go_ret
   refine⟨?_,H3.out⟩
   have h:=HQ.out
   simp at h
   simp[<- h]
  ·have bv:(ver == 0)=false:=by simp[hv]
   have HQ:Hid (¬ ver=0):=hv
   clear hv
   go_wp2_with fail
   go_ret
   exact⟨by have h:=HQ.out;simp[h],H2.out⟩
 ·rcases up with _|_
  ·clear HC
   go_wp2_with fail
   go_ret
   exact⟨by simp,H2.out⟩
  ·obtain⟨q,eq⟩:∃ q,decide (0<=ver/\ver<=60)=q:=⟨_,rfl⟩
   have HQ:Hid (decide (0<=ver/\ver<=60)=q):=eq
   have hV:=zog ver w2
   rw[eq] at hV
   clear eq
   rcases q with _|_
   ·go_wp2_with fail
    refine hV.mono ?_
    rintro e w3 ⟨rfl,hb⟩
    have H3:Hid (Below w.heap.size w w3):=zaj H2.out H2.out.size hb
    clear hb c0 c1 c2 c3 c4 c5 c6 hV HC
    go_wp2_with fail
    go_ret
    refine⟨?_,H3.out⟩
    have h:=HQ.out
    simp at h
    simp
    omega
   ·go_wp2_with fail
    refine hV.mono ?_
    rintro e w3 ⟨rfl,hb⟩
    have H3:Hid (Below w.heap.size w w3):=zaj H2.out H2.out.size hb
    have hC3:=HC.out w3 hb
    replace c3:=zab hb c3;replace c4:=zab hb c4;replace c5:=zab hb c5;replace c6:=zab hb c6
    clear hb c0 c1 c2 hV HC
    go_wp2_with fail
    refine hC3.mono ?_
    rintro e w4 ⟨rfl,hb⟩
    have H4:Hid (Below w.heap.size w w4):=zaj H3.out H3.out.size hb
    clear hb hC3 c3 c4 c5 c6
    go_wp2_with fail
    go_ret
    refine⟨?_,H4.out⟩
    have h:=HQ.out
    simp at h
    simp[h]
set_option maxRecDepth 100000 in
theorem zfK(up has:Bool)(ver wd:Int)(g l f:Option Addr)(gc lc fc:Nat)(cs:List (Int × Int))(ls:List Int)(fs:List (List Int))(w:World)(hM:ScM w g l f cs ls fs)(hC:∀(g l f:Option Addr) (gc lc fc:Nat) (w:World),ScM w g l f cs ls fs->Calls SqP.prog 7 #[.agg #[.int .i64 wd,.slice g cs.length gc,.slice l ls.length lc,.slice f fs.length fc]] w fun e w'=>e=.returned (.bool b)/\Below w.heap.size w w') :
  Calls SqP.prog 12 #[.agg #[.bool up,.bool has,.int .i64 ver,.int .i64 wd,.slice g cs.length gc,.slice l ls.length lc,.slice f fs.length fc]] w fun e w'=>e=.returned (.bool (if has=true then up && decide (0<=ver/\ver<=60) && b else decide (ver=0) && decide (wd=0/\cs.length=0/\ls.length=0/\fs.length=0)))/\Below w.heap.size w w':=by
 obtain⟨w2,hw2⟩:∃ w2,w2=w.alloc (.cells #[.bool up,.bool has,.int .i64 ver,.int .i64 wd,.slice g cs.length gc,.slice l ls.length lc,.slice f fs.length fc] 44):=⟨_,rfl⟩
 obtain⟨x1,hb2⟩:=zbe (.cells #[.bool up,.bool has,.int .i64 ver,.int .i64 wd,.slice g cs.length gc,.slice l ls.length lc,.slice f fs.length fc] 44) w
 rw[<- hw2] at x1 hb2
 have H2:Hid (Below w.heap.size w w2):=hb2
 have HC:Hid (∀ w3,Below w2.heap.size w2 w3->Calls SqP.prog 7 #[.agg #[.int .i64 wd,.slice g cs.length gc,.slice l ls.length lc,.slice f fs.length fc]] w3 fun e w'=>e=.returned (.bool b)/\Below w3.heap.size w3 w'):=fun w3 hb3=>hC g l f gc lc fc w3 ((hM.below hb2).below hb3)
 clear hC hM hb2
 obtain⟨N,hN⟩:∃ N,cs.length=N:=⟨_,rfl⟩
 obtain⟨P,hP⟩:∃ P,ls.length=P:=⟨_,rfl⟩
 obtain⟨R,hR⟩:∃ R,fs.length=R:=⟨_,rfl⟩
 rw[hN,hP,hR] at HC x1 hw2 ⊢
 clear hN hP hR
 go_enter SqP.func12,Tryz.ntmps12
 go_upto_region 1 with fail
 rw[<- hw2]
 clear hw2
 obtain⟨c0,c1,c2,c3,c4,c5,c6⟩:=zeN x1
 clear x1
 rcases has with _|_
 ·clear HC
  by_cases hv:ver=0
  ·subst hv
   go_wp2_with fail
   refine(zjr wd g l f gc lc fc N P R w2).mono ?_
   rintro e w3 ⟨rfl,hb⟩
   have H3:Hid (Below w.heap.size w w3):=zaj H2.out H2.out.size hb
   clear hb
   obtain⟨q,eq⟩:∃ q,decide (wd=0/\N=0/\P=0/\R=0)=q:=⟨_,rfl⟩
   have HQ:Hid (decide (wd=0/\N=0/\P=0/\R=0)=q):=eq
   rw[eq]
   clear eq c0 c1 c2 c3 c4 c5 c6
   go_wp2_with fail
   go_ret
   refine⟨?_,H3.out⟩
   have h:=HQ.out
   simp at h
   simp[<- h]
  ·have bv:(ver == 0)=false:=by simp[hv]
   have HQ:Hid (¬ ver=0):=hv
   clear hv
   go_wp2_with fail
   go_ret
   exact⟨by have h:=HQ.out;simp[h],H2.out⟩
 ·rcases up with _|_
  ·clear HC
   go_wp2_with fail
   go_ret
   exact⟨by simp,H2.out⟩
  ·obtain⟨q,eq⟩:∃ q,decide (0<=ver/\ver<=60)=q:=⟨_,rfl⟩
   have HQ:Hid (decide (0<=ver/\ver<=60)=q):=eq
   have hV:=zm6 ver w2
   rw[eq] at hV
   clear eq
   rcases q with _|_
   ·go_wp2_with fail
    refine hV.mono ?_
    rintro e w3 ⟨rfl,hb⟩
    have H3:Hid (Below w.heap.size w w3):=zaj H2.out H2.out.size hb
    clear hb c0 c1 c2 c3 c4 c5 c6 hV HC
    go_wp2_with fail
    go_ret
    refine⟨?_,H3.out⟩
    have h:=HQ.out
    simp at h
    simp
    omega
   ·go_wp2_with fail
    refine hV.mono ?_
    rintro e w3 ⟨rfl,hb⟩
    have H3:Hid (Below w.heap.size w w3):=zaj H2.out H2.out.size hb
    have hC3:=HC.out w3 hb
    replace c3:=zab hb c3;replace c4:=zab hb c4;replace c5:=zab hb c5;replace c6:=zab hb c6
    clear hb c0 c1 c2 hV HC
    go_wp2_with fail
    refine hC3.mono ?_
    rintro e w4 ⟨rfl,hb⟩
    have H4:Hid (Below w.heap.size w w4):=zaj H3.out H3.out.size hb
    clear hb hC3 c3 c4 c5 c6
    go_wp2_with fail
    go_ret
    refine⟨?_,H4.out⟩
    have h:=HQ.out
    simp at h
    simp[h]
theorem zno(up has:Bool)(ver wd:Int)(cs:List (Int × Int))(ls:List Int)(fs:List (List Int))(hS:zct cs ls fs):∃ b:Bool,
  (∀(g l f:Option Addr) (gc lc fc:Nat) (w:World),ScM w g l f cs ls fs->Calls SqP.prog 14 #[.agg #[.bool up,.bool has,.int .i64 ver,.int .i64 wd,.slice g cs.length gc,.slice l ls.length lc,.slice f fs.length fc]] w fun e w'=>e=.returned (.bool b)/\Below w.heap.size w w') /\
  (∀(g l f:Option Addr) (gc lc fc:Nat) (w:World),ScM w g l f cs ls fs->Calls SqP.prog 12 #[.agg #[.bool up,.bool has,.int .i64 ver,.int .i64 wd,.slice g cs.length gc,.slice l ls.length lc,.slice f fs.length fc]] w fun e w'=>e=.returned (.bool b)/\Below w.heap.size w w'):=by
 obtain⟨b,ci,cp⟩:=ziF wd cs ls fs hS
 exact⟨_,fun g l f gc lc fc w h=>zfy up has ver wd g l f gc lc fc cs ls fs w h ci,fun g l f gc lc fc w h=>zfK up has ver wd g l f gc lc fc cs ls fs w h cp⟩
set_option maxRecDepth 100000 in
theorem zha(up has:Bool)(ver wd:Int)(g l f:Option Addr)(gc lc fc:Nat)(cs:List (Int × Int))(ls:List Int)(fs:List (List Int))(w:World)(hM:ScM w g l f cs ls fs)(hF:Fits cs ls fs) :
  Calls SqP.prog 4 #[.agg #[.bool up,.bool has,.int .i64 ver,.int .i64 wd,.slice g cs.length gc,.slice l ls.length lc,.slice f fs.length fc]] w fun e w'=>e=.returned (.bool true)/\Below w.heap.size w w':=by
 obtain⟨w1,hw1⟩:∃ w1,w1=w.alloc (.cells #[.bool up,.bool has,.int .i64 ver,.int .i64 wd,.slice g cs.length gc,.slice l ls.length lc,.slice f fs.length fc] 40):=⟨_,rfl⟩
 obtain⟨x1,B1⟩:=zbe (.cells #[.bool up,.bool has,.int .i64 ver,.int .i64 wd,.slice g cs.length gc,.slice l ls.length lc,.slice f fs.length fc] 40) w
 rw[<- hw1] at x1 B1
 go_enter SqP.func4,Tryz.ntmps4
 go_upto_region 1 with fail
 rw[<- hw1]
 obtain⟨c0,c1,c2,c3,c4,c5,c6⟩:=zeN x1
 clear hw1 x1
 have HM:Hid (ScM w g l f cs ls fs):=hM
 go_wp2_with fail
 refine(zhD up has ver wd g l f gc lc fc cs ls fs 1048576 w1 (hM.2.2.below B1) hF (by omega)).mono ?_
 rintro e w2 ⟨r,rfl,hr,hb⟩
 have B2:Below w.heap.size w w2:=zaj B1 B1.size hb
 replace c0:=zab hb c0;replace c1:=zab hb c1;replace c2:=zab hb c2;replace c3:=zab hb c3;replace c4:=zab hb c4;replace c5:=zab hb c5;replace c6:=zab hb c6
 clear hb B1 hM
 rcases hr with hr|⟨hr,hS⟩
 ·go_wp2_with fail
  go_ret
  exact⟨rfl,B2⟩
 have hn:¬ r<0:=by omega
 obtain⟨b,ci,cp⟩:=zno up has ver wd cs ls fs hS
 have CI:Hid (∀(g l f:Option Addr) (gc lc fc:Nat) (w:World),ScM w g l f cs ls fs->Calls SqP.prog 14 #[.agg #[.bool up,.bool has,.int .i64 ver,.int .i64 wd,.slice g cs.length gc,.slice l ls.length lc,.slice f fs.length fc]] w fun e w'=>e=.returned (.bool b)/\Below w.heap.size w w'):=ci
 have CP:Hid (∀(g l f:Option Addr) (gc lc fc:Nat) (w:World),ScM w g l f cs ls fs->Calls SqP.prog 12 #[.agg #[.bool up,.bool has,.int .i64 ver,.int .i64 wd,.slice g cs.length gc,.slice l ls.length lc,.slice f fs.length fc]] w fun e w'=>e=.returned (.bool b)/\Below w.heap.size w w'):=cp
 have HS:Hid (zct cs ls fs):=hS
 have hne:(b != b)=false:=by simp
 clear hr ci cp hF hS
 go_wp2_with fail
 refine(zcC up has ver wd g l f gc lc fc cs ls fs w2 (HM.out.below B2) HS.out).mono ?_
 rintro e w3 ⟨g1,l1,f1,rfl,hM3,hb⟩
 have B3:Below w.heap.size w w3:=zaj B2 B2.size hb
 replace c0:=zab hb c0;replace c1:=zab hb c1;replace c2:=zab hb c2;replace c3:=zab hb c3;replace c4:=zab hb c4;replace c5:=zab hb c5;replace c6:=zab hb c6
 clear hb B2
 go_wp2_with fail
 refine(CP.out _ _ _ _ _ _ w3 hM3).mono ?_
 rintro e w4 ⟨rfl,hb⟩
 have B4:Below w.heap.size w w4:=zaj B3 B3.size hb
 replace c0:=zab hb c0;replace c1:=zab hb c1;replace c2:=zab hb c2;replace c3:=zab hb c3;replace c4:=zab hb c4;replace c5:=zab hb c5;replace c6:=zab hb c6
 clear hb B3 hM3
 go_wp2_with fail
 refine(zcC up has ver wd g l f gc lc fc cs ls fs w4 (HM.out.below B4) HS.out).mono ?_
 rintro e w5 ⟨gx,lx,fx,rfl,hM5,hb⟩
 have B5:Below w.heap.size w w5:=zaj B4 B4.size hb
 replace c0:=zab hb c0;replace c1:=zab hb c1;replace c2:=zab hb c2;replace c3:=zab hb c3;replace c4:=zab hb c4;replace c5:=zab hb c5;replace c6:=zab hb c6
 clear hb B4
 obtain⟨y1,hb6⟩:=zbe (.cells #[.bool up,.bool has,.int .i64 ver,.int .i64 wd,.slice (some ⟨gx,0,none⟩) cs.length cs.length,.slice (some ⟨lx,0,none⟩) ls.length ls.length,.slice (some ⟨fx,0,none⟩) fs.length fs.length] 44) w5
 have Y6:Hid ((w5.alloc (.cells #[.bool up,.bool has,.int .i64 ver,.int .i64 wd,.slice (some ⟨gx,0,none⟩) cs.length cs.length,.slice (some ⟨lx,0,none⟩) ls.length ls.length,.slice (some ⟨fx,0,none⟩) fs.length fs.length] 44)).heap[w5.heap.size]?=some (.cells #[.bool up,.bool has,.int .i64 ver,.int .i64 wd,.slice (some ⟨gx,0,none⟩) cs.length cs.length,.slice (some ⟨lx,0,none⟩) ls.length ls.length,.slice (some ⟨fx,0,none⟩) fs.length fs.length] 44)):=y1
 have B6:Hid (Below w.heap.size w (w5.alloc (.cells #[.bool up,.bool has,.int .i64 ver,.int .i64 wd,.slice (some ⟨gx,0,none⟩) cs.length cs.length,.slice (some ⟨lx,0,none⟩) ls.length ls.length,.slice (some ⟨fx,0,none⟩) fs.length fs.length] 44))):=zaj B5 B5.size hb6
 have M6:Hid (ScM (w5.alloc (.cells #[.bool up,.bool has,.int .i64 ver,.int .i64 wd,.slice (some ⟨gx,0,none⟩) cs.length cs.length,.slice (some ⟨lx,0,none⟩) ls.length ls.length,.slice (some ⟨fx,0,none⟩) fs.length fs.length] 44)) (some ⟨gx,0,none⟩) (some ⟨lx,0,none⟩) (some ⟨fx,0,none⟩) cs ls fs):=hM5.below hb6
 have e0:=zab hb6 c0
 have e1:=zab hb6 c1
 have e2:=zab hb6 c2
 have e3:=zab hb6 c3
 have e4:=zab hb6 c4
 have e5:=zab hb6 c5
 have e6:=zab hb6 c6
 clear y1 hb6 hM5 c0 c1 c2 c3 c4 c5 c6
 go_upto_region 7 with fail
 obtain⟨w6,hw6⟩:∃ w6,w6=w5.alloc (.cells #[.bool up,.bool has,.int .i64 ver,.int .i64 wd,.slice (some ⟨gx,0,none⟩) cs.length cs.length,.slice (some ⟨lx,0,none⟩) ls.length ls.length,.slice (some ⟨fx,0,none⟩) fs.length fs.length] 44):=⟨_,rfl⟩
 rw[<- hw6] at Y6 B6 M6 e0 e1 e2 e3 e4 e5 e6 ⊢
 clear hw6 B5
 obtain⟨d0,d1,d2,d3,d4,d5,d6⟩:=zeN Y6.out
 go_wp2_with fail
 refine(CI.out _ _ _ _ _ _ w6 M6.out).mono ?_
 rintro e w7 ⟨rfl,hb⟩
 have B7:Below w.heap.size w w7:=zaj B6.out B6.out.size hb
 have M7:ScM w7 (some ⟨gx,0,none⟩) (some ⟨lx,0,none⟩) (some ⟨fx,0,none⟩) cs ls fs:=M6.out.below hb
 have c0:=zab hb e0
 have c1:=zab hb e1
 have c2:=zab hb e2
 have c3:=zab hb e3
 have c4:=zab hb e4
 have c5:=zab hb e5
 have c6:=zab hb e6
 replace d0:=zab hb d0;replace d1:=zab hb d1;replace d2:=zab hb d2;replace d3:=zab hb d3;replace d4:=zab hb d4;replace d5:=zab hb d5;replace d6:=zab hb d6
 clear hb Y6 B6 M6 e0 e1 e2 e3 e4 e5 e6 CI CP
 go_wp2
 go_region_held3 (fun w'=>w'.cell? ⟨w5.heap.size,0,none⟩=some (.bool up)/\w'.cell? ⟨w5.heap.size,1,none⟩=some (.bool has)/\w'.cell? ⟨w5.heap.size,2,none⟩=some (.int .i64 ver)/\w'.cell? ⟨w5.heap.size,3,none⟩=some (.int .i64 wd)/\w'.cell? ⟨w5.heap.size,4,none⟩=some (.slice (some ⟨gx,0,none⟩) cs.length cs.length)/\w'.cell? ⟨w5.heap.size,5,none⟩=some (.slice (some ⟨lx,0,none⟩) ls.length ls.length)/\w'.cell? ⟨w5.heap.size,6,none⟩=some (.slice (some ⟨fx,0,none⟩) fs.length fs.length)/\w'.cell? ⟨w.heap.size,0,none⟩=some (.bool up)/\w'.cell? ⟨w.heap.size,1,none⟩=some (.bool has)/\w'.cell? ⟨w.heap.size,2,none⟩=some (.int .i64 ver)/\w'.cell? ⟨w.heap.size,3,none⟩=some (.int .i64 wd)/\w'.cell? ⟨w.heap.size,4,none⟩=some (.slice g cs.length gc)/\w'.cell? ⟨w.heap.size,5,none⟩=some (.slice l ls.length lc)/\w'.cell? ⟨w.heap.size,6,none⟩=some (.slice f fs.length fc))
  (first
   | exact⟨zab hb8 (zab hb7 d0),zab hb8 (zab hb7 d1),zab hb8 (zab hb7 d2),zab hb8 (zab hb7 d3),zab hb8 (zab hb7 d4),zab hb8 (zab hb7 d5),zab hb8 (zab hb7 d6),zab hb8 (zab hb7 c0),zab hb8 (zab hb7 c1),zab hb8 (zab hb7 c2),zab hb8 (zab hb7 c3),zab hb8 (zab hb7 c4),zab hb8 (zab hb7 c5),zab hb8 (zab hb7 c6)⟩
   | exact⟨zab hb7 d0,zab hb7 d1,zab hb7 d2,zab hb7 d3,zab hb7 d4,zab hb7 d5,zab hb7 d6,zab hb7 c0,zab hb7 c1,zab hb7 c2,zab hb7 c3,zab hb7 c4,zab hb7 c5,zab hb7 c6⟩
   | exact⟨d0,d1,d2,d3,d4,d5,d6,c0,c1,c2,c3,c4,c5,c6⟩
   | go_keep)
  (first
   | (go_at_call 13;refine(zcC up has ver wd g l f gc lc fc cs ls fs _ (HM.out.below (by first|exact B7|exact B7.drew)) HS.out).mono ?_;rintro e w8 ⟨gy,ly,fy,rfl,hM8,hb7'⟩;have hb7:Below w7.heap.size w7 w8:=(by first|exact hb7'|exact zbG hb7'))
   | (go_at_call 15;refine(zjf (M7.below hb7) hM8 HS.out).mono ?_;rintro e w9 ⟨rfl,hb8'⟩;have hb8:Below w8.heap.size w8 w9:=(by first|exact hb8'|exact zbG hb8'))
   | fail)
 all_goals
  have B9:Below w.heap.size w w9:=zaj B7 B7.size (zaj hb7 hb7.size hb8)
  go_wp2_with fail
  go_ret
  exact⟨rfl,by first|exact B9|exact B9.drew⟩
