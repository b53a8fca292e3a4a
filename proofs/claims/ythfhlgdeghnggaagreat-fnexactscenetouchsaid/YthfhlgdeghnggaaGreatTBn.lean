/- FnExactSceneTouch returns true for every scene and place, on every schedule of its goroutines: impl.SceneTouch answers as spec.SceneTouch, writes into nothing of its argument, keeps nothing of it, and its answer owns its memory, behind another call too. No condition. -/
import Derived.Conc.LeavingOf
import Derived.Test.YthfhlgdeghnggaaGreatTBg
import Derived.Test.YthfhlgdeghnggaaGreatTBk
import Derived.Test.YthfhlgdeghnggaaGreatTBm
set_option maxHeartbeats 4000000
set_option linter.unusedVariables false
namespace Go.Proofs.YthfhlgdeghnggaaGreat
variable{cs:List (Int × Int)}{fs:List (List Int)}{ls xs:List Int}{lo n:Nat}{f:Nat->Int}{S:Nat->Prop}{a:Option Addr}{w w':World}
section
open Go Go.Conc Go.ConcN
theorem zsH{L M:Program}{X Y:FuncId->Prop}{N:Nat}(h:∀ f,X f->Y f)(hy:XOk L M Y N):XOk L M X N:=fun F f a a' c c' cs cs' R wl w Sh gs t q sl hX=>hy F f a a' c c' cs cs' R wl w Sh gs t q sl (h f hX)
theorem zrZ(N:Nat):XOk SqP.prog Tryz.prog (fun i=>Sq.X i=true) N:=zsH Sq.one (zrP N)
end
namespace Sp
open Go.RowKit
attribute [local go_sem ↓] Go.wp_at_zero Go.wp_at_succ
theorem znj{wd:Int}{g l f g2 l2 f2:Option Addr}{gc lc fc gc2 lc2 fc2:Nat}(h:ScM w g l f cs ls fs)(h2:ScM w g2 l2 f2 cs ls fs)(hS:zdA cs ls fs) :
  Calls SqP.prog 11 #[.agg #[.int .i64 wd,.slice g cs.length gc,.slice l ls.length lc,.slice f fs.length fc],.agg #[.int .i64 wd,.slice g2 cs.length gc2,.slice l2 ls.length lc2,.slice f2 fs.length fc2]] w fun e w'=>e=.returned (.bool true)/\Below w.heap.size w w' :=
 znk wd g l f g2 l2 f2 gc lc fc gc2 lc2 fc2 cs ls fs w h.1 h.2.1 h.2.2 h2.1 h2.2.1 h2.2.2 hS
theorem ScN.on2{g1 g2 g3:Nat}(h:ScN w lo g1 g2 g3 cs ls fs)(hb:Below w.heap.size w w'):ScN w' lo g1 g2 g3 cs ls fs:=h.move hb.size fun b _ q=>hb.block b q
def Row1(w:World)(lo hi:Nat)(a:Option Addr)(n:Nat)(f:Nat->Int):Prop:=RI w a (n * 1) f/\∀ x,a=some x->lo<=x.block/\x.block<hi
theorem Row1.below{hi:Nat}(h:Row1 w lo hi a n f)(hb:Below w.heap.size w w'):Row1 w' lo hi a n f:=⟨h.1.below hb,h.2⟩
theorem Row1.off{hi:Nat}(h:Row1 w lo hi a n f)(ho:zcA S w w')(hS:∀ e,lo<=e->e<hi->¬ S e):Row1 w' lo hi a n f :=
 ⟨h.1.offN ho fun x q=>hS _ (h.2 x q).1 (h.2 x q).2,h.2⟩
theorem zqd{B:Nat}{v:Value}(h:zb7 w B v xs):∃ a c,v=.slice a xs.length c/\Row1 w B w.heap.size a xs.length (fun i=>xs.getD i 0):=by
 obtain⟨a,c,h1,h2,h3⟩:=zed h
 exact⟨a,c,h1,h2,fun x q=>World.ownsRow.lt h _ (h3 x q)⟩
def zr6(w:World)(n:Nat)(f:Nat->Int)(e:Ending)(w':World):Prop:=∃ a c,e=.returned (.slice a n c)/\Row1 w' w.heap.size w'.heap.size a n f/\Below w.heap.size w w'
theorem zmW{e:Ending}(h:∃ v,e=.returned v/\zb7 w' w.heap.size v xs/\Below w.heap.size w w'):zr6 w xs.length (fun i=>xs.getD i 0) e w':=by
 obtain⟨v,h1,h2,h3⟩:=h
 obtain⟨a,c,rfl,h4⟩:=zqd h2
 exact⟨a,c,h1,h4,h3⟩
set_option maxRecDepth 100000 in
theorem zeX(wd x:Int)(hx:-9223372036854775808<=x/\x<=9223372036854775807)(g l f:Option Addr)(gc lc fc:Nat)(cs:List (Int × Int))(ls:List Int)(fs:List (List Int))(w:World)(hM:ScM w g l f cs ls fs)(hF:Fits cs ls fs) :
  Calls SqP.prog 3 #[.agg #[.int .i64 wd,.slice g cs.length gc,.slice l ls.length lc,.slice f fs.length fc],.int .i64 x] w fun e w'=>e=.returned (.bool true)/\Below w.heap.size w w':=by
 obtain⟨w1,hw1⟩:∃ w1,w1=w.alloc (.cells #[.int .i64 wd,.slice g cs.length gc,.slice l ls.length lc,.slice f fs.length fc] 28):=⟨_,rfl⟩
 obtain⟨x1,B1⟩:=zbr (.cells #[.int .i64 wd,.slice g cs.length gc,.slice l ls.length lc,.slice f fs.length fc] 28) w
 rw[<- hw1] at x1 B1
 have z1:w.heap.size<w1.heap.size:=by rw[hw1];simp
 go_enter SqP.func3,Tryz.ntmps3
 go_upto_region 1 with fail
 rw[<- hw1]
 obtain⟨c0,c1,c2,c3⟩:=zcm x1
 clear hw1 x1
 have HM:Hid (ScM w g l f cs ls fs):=hM
 go_wp2_with fail
 refine(zkn wd g l f gc lc fc cs ls fs 1048576 w1 (hM.2.2.below B1) hF (by omega)).mono ?_
 rintro e w2 ⟨r,rfl,hr,hb⟩
 have z2:w.heap.size<w2.heap.size:=nll z1 hb.size
 have B2:Below w.heap.size w w2:=zaj B1 B1.size hb
 replace c0:=zab hb c0;replace c1:=zab hb c1;replace c2:=zab hb c2;replace c3:=zab hb c3
 clear hb B1 hM
 rcases hr with hr|⟨hr,hS⟩
 ·go_wp2_with fail
  go_ret
  exact⟨rfl,B2⟩
 have hn:¬ r<0:=by omega
 have ci:∀(g l f:Option Addr) (gc lc fc:Nat) (w:World),ScM w g l f cs ls fs->Calls SqP.prog 9 #[.agg #[.int .i64 wd,.slice g cs.length gc,.slice l ls.length lc,.slice f fs.length fc],.int .i64 x] w (zr6 w (zch wd cs ls fs x).length (fun i=>(zch wd cs ls fs x).getD i 0)):=fun g l f gc lc fc w h=>(zhC wd x hx g l f gc lc fc cs ls fs w h hS).mono fun e w' q=>zmW q
 have cp:∀(g l f:Option Addr) (gc lc fc:Nat) (w:World),ScM w g l f cs ls fs->Calls SqP.prog 7 #[.agg #[.int .i64 wd,.slice g cs.length gc,.slice l ls.length lc,.slice f fs.length fc],.int .i64 x] w (zr6 w (zch wd cs ls fs x).length (fun i=>(zch wd cs ls fs x).getD i 0)):=fun g l f gc lc fc w h=>(zhS wd x g l f gc lc fc cs ls fs w h hS).mono fun e w' q=>zmW q
 have hT:(zch wd cs ls fs x).length<=1048576:=by
  unfold zch
  split
  ·exact Nat.le_trans (zeJ _ _ _) hS.2.2.1
  ·simp
 obtain⟨n,en⟩:∃ n,(zch wd cs ls fs x).length=n:=⟨_,rfl⟩
 obtain⟨F,eF⟩:∃ F:Nat->Int,(fun i=>(zch wd cs ls fs x).getD i 0)=F:=⟨_,rfl⟩
 rw[en,eF] at ci cp
 rw[en] at hT
 have CI:Hid (∀(g l f:Option Addr) (gc lc fc:Nat) (w:World),ScM w g l f cs ls fs->Calls SqP.prog 9 #[.agg #[.int .i64 wd,.slice g cs.length gc,.slice l ls.length lc,.slice f fs.length fc],.int .i64 x] w (zr6 w n F)):=ci
 have CP:Hid (∀(g l f:Option Addr) (gc lc fc:Nat) (w:World),ScM w g l f cs ls fs->Calls SqP.prog 7 #[.agg #[.int .i64 wd,.slice g cs.length gc,.slice l ls.length lc,.slice f fs.length fc],.int .i64 x] w (zr6 w n F)):=cp
 have HS:Hid (zdA cs ls fs):=hS
 clear hr ci cp hF hS en eF
 go_wp2_with fail
 refine(zdH wd g l f gc lc fc cs ls fs w2 (HM.out.below B2) HS.out).mono ?_
 rintro e w3 ⟨g1,l1,f1,rfl,hM3,hb⟩
 have z3:w.heap.size<w3.heap.size:=nll z2 hb.size
 have B3:Below w.heap.size w w3:=zaj B2 B2.size hb
 replace c0:=zab hb c0;replace c1:=zab hb c1;replace c2:=zab hb c2;replace c3:=zab hb c3
 clear hb B2 z2
 go_wp2_with fail
 refine(CP.out _ _ _ _ _ _ w3 hM3).mono ?_
 rintro e w4 ⟨a0,k0,rfl,h0,hb⟩
 have z4:w3.heap.size<=w4.heap.size:=hb.size
 have H0:Hid (Row1 w4 w3.heap.size w4.heap.size a0 n F):=h0
 have B4:Below w.heap.size w w4:=zaj B3 B3.size hb
 replace c0:=zab hb c0;replace c1:=zab hb c1;replace c2:=zab hb c2;replace c3:=zab hb c3
 clear hb B3 hM3 h0
 go_wp2_with fail
 refine(zgj wd g l f gc lc fc cs ls fs w4 (HM.out.below B4) HS.out).mono ?_
 rintro e w5 ⟨gx,lx,fx,rfl,hM5,hb⟩
 have z5:w4.heap.size<=w5.heap.size:=hb.size
 have B5:Below w.heap.size w w5:=zaj B4 B4.size hb
 have H05:Hid (Row1 w5 w3.heap.size w4.heap.size a0 n F):=H0.out.below hb
 replace c0:=zab hb c0;replace c1:=zab hb c1;replace c2:=zab hb c2;replace c3:=zab hb c3
 clear hb B4 H0
 obtain⟨y1,hb6⟩:=zbr (.cells #[.int .i64 wd,.slice (some ⟨gx,0,none⟩) cs.length cs.length,.slice (some ⟨lx,0,none⟩) ls.length ls.length,.slice (some ⟨fx,0,none⟩) fs.length fs.length] 35) w5
 have Y6:Hid ((w5.alloc (.cells #[.int .i64 wd,.slice (some ⟨gx,0,none⟩) cs.length cs.length,.slice (some ⟨lx,0,none⟩) ls.length ls.length,.slice (some ⟨fx,0,none⟩) fs.length fs.length] 35)).heap[w5.heap.size]?=some (.cells #[.int .i64 wd,.slice (some ⟨gx,0,none⟩) cs.length cs.length,.slice (some ⟨lx,0,none⟩) ls.length ls.length,.slice (some ⟨fx,0,none⟩) fs.length fs.length] 35)):=y1
 have B6:Hid (Below w.heap.size w (w5.alloc (.cells #[.int .i64 wd,.slice (some ⟨gx,0,none⟩) cs.length cs.length,.slice (some ⟨lx,0,none⟩) ls.length ls.length,.slice (some ⟨fx,0,none⟩) fs.length fs.length] 35))):=zaj B5 B5.size hb6
 have M6:Hid (ScN (w5.alloc (.cells #[.int .i64 wd,.slice (some ⟨gx,0,none⟩) cs.length cs.length,.slice (some ⟨lx,0,none⟩) ls.length ls.length,.slice (some ⟨fx,0,none⟩) fs.length fs.length] 35)) w4.heap.size gx lx fx cs ls fs/\Mk (w5.alloc (.cells #[.int .i64 wd,.slice (some ⟨gx,0,none⟩) cs.length cs.length,.slice (some ⟨lx,0,none⟩) ls.length ls.length,.slice (some ⟨fx,0,none⟩) fs.length fs.length] 35)) w4.heap.size w5.heap.size gx lx fx cs ls fs):=⟨hM5.on2 hb6,(hM5 _ hb6.size fun b _ q=>hb6.block b q).2⟩
 have H06:Hid (Row1 (w5.alloc (.cells #[.int .i64 wd,.slice (some ⟨gx,0,none⟩) cs.length cs.length,.slice (some ⟨lx,0,none⟩) ls.length ls.length,.slice (some ⟨fx,0,none⟩) fs.length fs.length] 35)) w3.heap.size w4.heap.size a0 n F):=H05.out.below hb6
 have Z6:Hid ((w5.alloc (.cells #[.int .i64 wd,.slice (some ⟨gx,0,none⟩) cs.length cs.length,.slice (some ⟨lx,0,none⟩) ls.length ls.length,.slice (some ⟨fx,0,none⟩) fs.length fs.length] 35)).heap.size=w5.heap.size+1):=by show _=_;simp
 have e0:=zab hb6 c0
 have e1:=zab hb6 c1
 have e2:=zab hb6 c2
 have e3:=zab hb6 c3
 clear y1 hb6 c0 c1 c2 c3 H05
 have M5:Hid (ScN w5 w4.heap.size gx lx fx cs ls fs):=hM5
 clear hM5
 go_upto_region 7 with fail
 obtain⟨w6,hw6⟩:∃ w6,w6=w5.alloc (.cells #[.int .i64 wd,.slice (some ⟨gx,0,none⟩) cs.length cs.length,.slice (some ⟨lx,0,none⟩) ls.length ls.length,.slice (some ⟨fx,0,none⟩) fs.length fs.length] 35):=⟨_,rfl⟩
 rw[<- hw6] at Y6 B6 M6 H06 Z6 e0 e1 e2 e3 ⊢
 have MK6:Hid (∀ w':World,w5.heap.size<=w'.heap.size->(∀ b,w4.heap.size<=b->b<w5.heap.size->w'.heap[b]?=w6.heap[b]?)->Mk w' w4.heap.size w5.heap.size gx lx fx cs ls fs):=fun w' h1 h2=>(M5.out w' h1 fun b q1 q2=>(h2 b q1 q2).trans (by rw[hw6];exact Below.heap_alloc _ _ _ q2)).2
 clear hw6 B5 M5
 obtain⟨d0,d1,d2,d3⟩:=zcm Y6.out
 go_wp2_with fail
 refine(CI.out _ _ _ _ _ _ w6 M6.out.1.m).mono ?_
 rintro e w7 ⟨a1,k1,rfl,h1,hb⟩
 have z7:w5.heap.size+1<=w7.heap.size:=by have:=hb.size;have:=Z6.out;omega
 have B7:Below w.heap.size w w7:=zaj B6.out B6.out.size hb
 have O7:Hid (zcA (fun _=>False) w6 w7):=zcA.of hb
 have M7:Hid (ScM w7 (some ⟨gx,0,none⟩) (some ⟨lx,0,none⟩) (some ⟨fx,0,none⟩) cs ls fs):=M6.out.1.m.below hb
 have H07:=H06.out.below hb
 have H17:Row1 w7 (w5.heap.size+1) w7.heap.size a1 n F:=by rw[<- Z6.out];exact h1
 have c0:=zab hb e0
 have c1:=zab hb e1
 have c2:=zab hb e2
 have c3:=zab hb e3
 replace d0:=zab hb d0;replace d1:=zab hb d1;replace d2:=zab hb d2;replace d3:=zab hb d3
 clear hb Y6 B6 M6 H06 e0 e1 e2 e3 h1
 have HE7:=(zdE (aLt:=Sq.altP)) a1 a0 k1 k0 n F w7 H17.1 H07.1 (by omega)
 have H7:Hid (Row1 w7 w3.heap.size w4.heap.size a0 n F/\Row1 w7 (w5.heap.size+1) w7.heap.size a1 n F):=⟨H07,H17⟩
 clear H07 H17
 go_wp2_with fail
 refine HE7.mono ?_
 rintro e w8 ⟨rfl,hb⟩
 have z8:w7.heap.size<=w8.heap.size:=hb.size
 have B8:Below w.heap.size w w8:=zaj B7 B7.size hb
 have O8:Hid (zcA (fun _=>False) w6 w8):=O7.out.trans (zcA.of hb)
 have M8:ScM w8 (some ⟨gx,0,none⟩) (some ⟨lx,0,none⟩) (some ⟨fx,0,none⟩) cs ls fs:=M7.out.below hb
 have H8:Hid (Row1 w8 w3.heap.size w4.heap.size a0 n F/\Row1 w8 (w5.heap.size+1) w7.heap.size a1 n F):=⟨H7.out.1.below hb,H7.out.2.below hb⟩
 replace c0:=zab hb c0;replace c1:=zab hb c1;replace c2:=zab hb c2;replace c3:=zab hb c3;replace d0:=zab hb d0;replace d1:=zab hb d1;replace d2:=zab hb d2;replace d3:=zab hb d3
 clear hb B7 O7 M7 H7 HE7
 go_wp2
 go_region_held3 (fun w'=>w'.cell? ⟨w5.heap.size,0,none⟩=some (.int .i64 wd)/\w'.cell? ⟨w5.heap.size,1,none⟩=some (.slice (some ⟨gx,0,none⟩) cs.length cs.length)/\w'.cell? ⟨w5.heap.size,2,none⟩=some (.slice (some ⟨lx,0,none⟩) ls.length ls.length)/\w'.cell? ⟨w5.heap.size,3,none⟩=some (.slice (some ⟨fx,0,none⟩) fs.length fs.length)/\w'.cell? ⟨w.heap.size,0,none⟩=some (.int .i64 wd)/\w'.cell? ⟨w.heap.size,1,none⟩=some (.slice g cs.length gc)/\w'.cell? ⟨w.heap.size,2,none⟩=some (.slice l ls.length lc)/\w'.cell? ⟨w.heap.size,3,none⟩=some (.slice f fs.length fc))
  (first
   | exact⟨zab hb8 (zab hb7 d0),zab hb8 (zab hb7 d1),zab hb8 (zab hb7 d2),zab hb8 (zab hb7 d3),zab hb8 (zab hb7 c0),zab hb8 (zab hb7 c1),zab hb8 (zab hb7 c2),zab hb8 (zab hb7 c3)⟩
   | exact⟨zab hb7 d0,zab hb7 d1,zab hb7 d2,zab hb7 d3,zab hb7 c0,zab hb7 c1,zab hb7 c2,zab hb7 c3⟩
   | exact⟨d0,d1,d2,d3,c0,c1,c2,c3⟩
   | go_keep)
  (first
   | (go_at_call 8;refine(zdH wd g l f gc lc fc cs ls fs _ (HM.out.below (by first|exact B8|exact B8.drew)) HS.out).mono ?_;rintro e w9 ⟨gy,ly,fy,rfl,hM9,hb7'⟩;have hb7:Below w8.heap.size w8 w9:=(by first|exact hb7'|exact zbZ hb7'))
   | (go_at_call 11;refine(znj (M8.below hb7) hM9 HS.out).mono ?_;rintro e w10 ⟨rfl,hb8'⟩;have hb8:Below w9.heap.size w9 w10:=(by first|exact hb8'|exact zbZ hb8'))
   | fail)
 have hb10:Below w8.heap.size w8 w10:=zaj hb7 hb7.size hb8
 have z10:w8.heap.size<=w10.heap.size:=hb10.size
 have B10:Below w.heap.size w w10:=zaj B8 B8.size hb10
 have M10:Mk w10 w4.heap.size w5.heap.size gx lx fx cs ls fs:=MK6.out w10 (by omega) fun b q1 q2=>by
  have s6:=Z6.out
  rw[hb10.block b (by omega)]
  exact O8.out.block b (by omega) id
 have H10:Hid (Row1 w10 w3.heap.size w4.heap.size a0 n F/\Row1 w10 (w5.heap.size+1) w7.heap.size a1 n F):=⟨H8.out.1.below hb10,H8.out.2.below hb10⟩
 replace c0:=zab hb10 c0;replace c1:=zab hb10 c1;replace c2:=zab hb10 c2;replace c3:=zab hb10 c3;replace d0:=zab hb10 d0;replace d1:=zab hb10 d1;replace d2:=zab hb10 d2;replace d3:=zab hb10 d3
 clear hb7 hb8 hb10 hM9 M8 H8 B8 O8 MK6
 have hmk:=zjU (wd:=wd) (fc:=fs.length) M10 HS.out ⟨rfl,rfl⟩
 clear M10
 go_wp2_with fail
 refine hmk.mono ?_
 rintro e w11 ⟨r11,rfl,hr11,ho11⟩
 have z11:w10.heap.size<=w11.heap.size:=ho11.size
 have B11:Below w.heap.size w w11:=ho11.below B10 (fun e q=>by omega) B10.size
 have H11:Row1 w11 w3.heap.size w4.heap.size a0 n F/\Row1 w11 (w5.heap.size+1) w7.heap.size a1 n F:=⟨H10.out.1.off ho11 (fun e q1 q2 q3=>by omega),H10.out.2.off ho11 (fun e q1 q2 q3=>by omega)⟩
 have n1:¬ (w4.heap.size<=w.heap.size/\w.heap.size<w5.heap.size):=by omega
 replace c0:=ho11.cell n1 c0
 replace c1:=ho11.cell n1 c1
 replace c2:=ho11.cell n1 c2
 replace c3:=ho11.cell n1 c3
 have br:decide (r11<0)=false:=decide_eq_false (by omega)
 have HE11:=(zdE (aLt:=Sq.altP)) a1 a0 k1 k0 n F w11 H11.2.1 H11.1.1 (by omega)
 have HH11:Hid (Row1 w11 w3.heap.size w4.heap.size a0 n F/\Row1 w11 (w5.heap.size+1) w7.heap.size a1 n F):=H11
 clear d0 d1 d2 d3 hmk ho11 n1 H10 H11 B10
 go_wp2_with fail
 refine HE11.mono ?_
 rintro e w12 ⟨rfl,hb⟩
 have z12:w11.heap.size<=w12.heap.size:=hb.size
 have B12:Below w.heap.size w w12:=zaj B11 B11.size hb
 have H12:Hid (Row1 w12 w3.heap.size w4.heap.size a0 n F):=HH11.out.1.below hb
 have HR12:Row1 w12 (w5.heap.size+1) w7.heap.size a1 n F:=HH11.out.2.below hb
 replace c0:=zab hb c0;replace c1:=zab hb c1;replace c2:=zab hb c2;replace c3:=zab hb c3
 have hmk:=(ziG (aLt:=Sq.altP)) 1 a1 n k1 F w12 HR12.1 (by omega) (by omega)
 have HB1:Hid (∀ x,a1=some x->w5.heap.size+1<=x.block/\x.block<w7.heap.size):=HR12.2
 clear hb B11 HE11 HH11 HR12
 go_wp2_with fail
 refine hmk.mono ?_
 rintro e w13 ⟨rfl,hR13,hg13⟩
 have ho13:=(zcA.refl (fun e=>w5.heap.size+1<=e/\e<w7.heap.size) w12).grown hg13 (fun b q=>by
  obtain⟨x,q1,q2⟩:=zd1 q
  rw[q2]
  exact HB1.out x q1)
 have z13:w12.heap.size<=w13.heap.size:=ho13.size
 have B13:Below w.heap.size w w13:=ho13.below B12 (fun e q=>by omega) B12.size
 have H13:Hid (Row1 w13 w3.heap.size w4.heap.size a0 n F):=H12.out.off ho13 (fun e q1 q2 q3=>by omega)
 have n1:¬ (w5.heap.size+1<=w.heap.size/\w.heap.size<w7.heap.size):=by omega
 replace c0:=ho13.cell n1 c0
 replace c1:=ho13.cell n1 c1
 replace c2:=ho13.cell n1 c2
 replace c3:=ho13.cell n1 c3
 have HR13:Hid (Row1 w13 (w5.heap.size+1) w7.heap.size a1 n (fun j=>1+(j:Int))):=⟨hR13,HB1.out⟩
 have hq:¬ (1+1 * (n:Int)<0):=by omega
 have hq2:((1+1 * (n:Int)) != (1+1 * (n:Int)))=false:=by simp
 have hh:=(zeP (aLt:=Sq.altP)) 1 a1 n k1 w13 hR13 (by omega) (by omega)
 clear hmk hg13 ho13 n1 H12 B12 hR13
 go_wp2_with fail
 refine hh.mono ?_
 rintro e w14 ⟨rfl,rfl⟩
 clear hh
 go_wp2_with fail
 refine(zdH wd g l f gc lc fc cs ls fs _ (HM.out.below B13) HS.out).mono ?_
 rintro e w15 ⟨gz,lz,fz,rfl,hM15,hb⟩
 have B15:Below w.heap.size w w15:=zaj B13 B13.size hb
 have H15:Hid (Row1 w15 w3.heap.size w4.heap.size a0 n F/\Row1 w15 (w5.heap.size+1) w7.heap.size a1 n (fun j=>1+(j:Int))):=⟨H13.out.below hb,HR13.out.below hb⟩
 clear hb B13 H13 HR13 c0 c1 c2 c3
 go_wp2_with fail
 refine(CI.out _ _ _ _ _ _ w15 hM15).mono ?_
 rintro e w16 ⟨a2,k2,rfl,h2,hb⟩
 have B16:Below w.heap.size w w16:=zaj B15 B15.size hb
 have H16:Hid (Row1 w16 (w5.heap.size+1) w7.heap.size a1 n (fun j=>1+(j:Int))):=H15.out.2.below hb
 have HE16:=(zdE (aLt:=Sq.altP)) a2 a0 k2 k0 n F w16 h2.1 (H15.out.1.below hb).1 (by omega)
 clear hb B15 hM15 H15 h2
 go_wp2_with fail
 refine HE16.mono ?_
 rintro e w17 ⟨rfl,hb⟩
 have B17:Below w.heap.size w w17:=zaj B16 B16.size hb
 have hh:=(zeP (aLt:=Sq.altP)) 1 a1 n k1 w17 (H16.out.below hb).1 (by omega) (by omega)
 clear hb B16 H16 HE16
 go_wp2_with fail
 refine hh.mono ?_
 rintro e w18 ⟨rfl,rfl⟩
 go_wp2_with fail
 go_ret
 exact⟨rfl,B17⟩
end Sp
namespace ExSceneTouch
open Go.ChangeShapes Go.WideShapes Go.ChangeAt Go.RowKit Go.Conc
theorem zsk{x:Int}(h:(Lit.int .i64 x).wf=true):-9223372036854775808<=x/\x<=9223372036854775807:=by
 simp[Lit.wf,IntKind.min,IntKind.max,IntKind.signed,IntKind.bits] at h
 omega
theorem runs(wd:Int)(g l f:Option Addr)(gc lc fc:Nat)(cs:List (Int × Int))(ls:List Int)(fs:List (List Int))(x:Int)(W:World)(hM:ScK W g l f cs ls fs)(hF:Sp.Fits cs ls fs)(hV:zao (zcu (rowsOf W)) (.agg #[.int .i64 wd,.slice g cs.length gc,.slice l ls.length lc,.slice f fs.length fc]) (.agg #[.int .i64 wd,.slice g cs.length gc,.slice l ls.length lc,.slice f fs.length fc]))(hx:(Lit.int .i64 x).wf=true) :
  ∃ n last o w' t',runNT Tryz.prog (n+1) (solo (G (Frame.enter Tryz.prog 3 #[.agg #[.int .i64 wd,.slice g cs.length gc,.slice l ls.length lc,.slice f fs.length fc],.int .i64 x] .normal) []) W) #[]=(.ended o w',t')/\runN Tryz.prog n (solo (G (Frame.enter Tryz.prog 3 #[.agg #[.int .i64 wd,.slice g cs.length gc,.slice l ls.length lc,.slice f fs.length fc],.int .i64 x] .normal) []) W)=.next last /\
   step Tryz.prog last=.ended o w'/\Go.Conc.Good Tryz.prog (fun v w'=>v=.bool true/\Below W.heap.size W w') last o w' t':=by
 refine znP (L:=SqP.prog) (M:=Tryz.prog) (K:=rowsOf W) (PostL:=fun v _=>v=.bool true) SqP.whole SqP.bodies SqP.func3 rfl (by simp[Sq.X]) (by kernel_rfl) (by kernel_rfl) (zhN zd8) (zaz.two hV (.int .i64 x)) (zrZ _) (fun _ _ _ _ h=>h) (fun τ d=>?_) (fun R v v' wl w' hv h hB=>?_)
 ·exact(Sp.zeX wd x (zsk hx) g l f gc lc fc cs ls fs _ (zrM hM τ d) hF).mono fun e w' h=>⟨_,h.1,rfl⟩
 ·subst h
  exact⟨zbw hv,hB⟩
set_option maxRecDepth 100000 in
theorem lifted(os:Os)(started:os.Started)(H:Type)(enc:TypeId × Value->H) :
  ReturnsInLeavingWide {} Tryz.checked os 3 .any (Rows.fnExactSceneTouchSpec.pre6 enc Tryz.prog Tryz.f3 Rows.fnExactSceneTouchRow.domain false) (Rows.fnExactSceneTouchSpec.post enc Tryz.prog Tryz.f3 false true false false):=by
 refine returnsInLeavingWide_of_change_sized (C:=Tryz.checked) own started Tryz.func3
  (ChangeSpec.witness6 (enc:=enc) (C:=Tryz.checked) false ⟨#[],#[.agg #[.int .i64 0,.slice none 0 0,.slice none 0 0,.slice none 0 0],.int .i64 0],[]⟩ 8 (by kernel_rfl) (by kernel_rfl) (by kernel_rfl) (by kernel_rfl)) ?_
 intro W base args ds gs before hval0 hW hcnd _ _
 have hval:∀(j:Nat) t v,Tryz.f3.params[j]?=some t->args[j]?=some v->Value.okWide Tryz.prog W .any base t v:=hval0
 have hW':=hW
 obtain⟨p,q,hA0,hV,rfl,hfz,hnd⟩:=hW
 have hA:DataW.TrodAll enc Tryz.prog W 0 (fun _=>true) true Tryz.f3.params.toList args.toList ds p:=hA0
 rw[Tryz.params3] at hA hval
 obtain⟨v0,vs0,d0,ds0,p0,q0,hargs,rfl,rfl,h0,r0⟩:=trodAll_cons hA
 obtain⟨v1,vs1,d1,ds1,p1,q1,rfl,rfl,rfl,h1,r1⟩:=trodAll_cons r0
 obtain⟨rfl,rfl,rfl⟩:=trodAll_nil r1
 obtain rfl:args=#[v0,v1]:=by cases args;simp_all
 obtain⟨rfl,rfl⟩:=trodVars_none hV
 have k0:=h0
 have lt0:∀ x∈p0,x.block<W.heap.size:=by obtain⟨m,hm⟩:=k0;exact DataW.trod_lt m _ _ _ hm
 obtain⟨wd0,g0,l0,f0,gc0,lc0,fc0,cs0,ls0,fs0,rfl,hM0,hF0,hV0⟩:=zlY (hval 0 28 v0 rfl rfl) h0
 have k1:=h1
 have lt1:∀ x∈p1,x.block<W.heap.size:=by obtain⟨m,hm⟩:=k1;exact DataW.trod_lt m _ _ _ hm
 obtain⟨x1,rfl,_,_,wx1⟩:=open_int Tryz.underlying3 (hval 1 3 v1 rfl rfl) h1
 clear hA0 hval0
 obtain⟨M,last,o,w9,t9,r1,r2,r3,r4⟩:=runs wd0 g0 l0 f0 gc0 lc0 fc0 cs0 ls0 fs0 x1 W hM0 hF0 hV0 wx1
 refine⟨M,last,o,w9,t9,r1,r2,r3,r4.mono fun v ⟨he,bel⟩=>?_⟩
 subst he
 exact⟨_,_,_,[],_,[],hW',trodAll_mk1 (shut_bool Tryz.underlying4 _),(trodAll_cons_mk (Below.trod laidOut (by kernel_rfl) (of_decide_eq_true (by kernel_rfl)) k0 bel lt0) (trodAll_cons_mk (Below.trod laidOut (by kernel_rfl) (of_decide_eq_true (by kernel_rfl)) k1 bel lt1) trodAll_mk0)),rfl,bel.frame _,fun h=>by cases h⟩
theorem over:Rows.fnExactSceneTouchRow.holds Tryz.pinned (OpenSpec.ofChange Rows.fnExactSceneTouchSpec) :=
 OpenClaim.holds_of_wide_leaving 3 Tryz.f3 rfl rfl rfl rfl rfl rfl rfl ⟨rfl,rfl,rfl,rfl,rfl⟩ rfl rfl rfl rfl rfl (by kernel_rfl) Tryz.func3 (by kernel_rfl)
  (of_decide_eq_true (by kernel_rfl)) (by unfold Func.isWrapper;first|(rw[if_pos (by decide +kernel)];kernel_rfl)|(rw[if_neg (by decide +kernel)];exact⟨rfl,rfl⟩))
  (fun os started H enc _=>lifted os started H enc)
end ExSceneTouch
section
theorem exSceneTouch:Rows.FnExactSceneTouchSaid:=ExSceneTouch.over
#print axioms exSceneTouch
