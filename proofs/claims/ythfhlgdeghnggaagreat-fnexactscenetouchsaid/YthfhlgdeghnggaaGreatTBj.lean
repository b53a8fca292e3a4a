/- Part. -/
import Derived.Test.YthfhlgdeghnggaaGreatTBi
set_option maxHeartbeats 2000000
set_option linter.unusedVariables false
namespace Go.Proofs.YthfhlgdeghnggaaGreat
variable{va vo vr:Array Value}{cs xs:List (Int × Int)}{fs:List (List Int)}{ls:List Int}{B b:Nat}{t:TypeId}{w w':World}
namespace Sp
open Go.RowKit
attribute [local go_sem ↓] Go.wp_at_zero Go.wp_at_succ
theorem zfT{g n:Nat}(h:Own w B (.slice (some ⟨g,0,none⟩) n n) xs)(hk:w'.heap[g]?=w.heap[g]?):Own w' B (.slice (some ⟨g,0,none⟩) n n) xs:=by
 obtain⟨h1,h2⟩:=h
 refine⟨h1,?_⟩
 rcases h2 with h2|⟨g',cap,cur,q1,q2,q3,q4⟩
 ·exact .inl h2
 ·have e:g=g':=by simp only[Value.slice.injEq,Option.some.injEq,Addr.mk.injEq] at q1;exact q1.1.1
  subst e
  exact .inr ⟨g,cap,cur,q1,q2,hk.trans q3,q4⟩
def ScM(w:World)(g l f:Option Addr)(cs:List (Int × Int))(ls:List Int)(fs:List (List Int)):Prop:=zak w g cs/\zcP w l ls/\zde w f fs
theorem ScM.below{g l f:Option Addr}(h:ScM w g l f cs ls fs)(hb:Below w.heap.size w w'):ScM w' g l f cs ls fs:=⟨h.1.below hb,h.2.1.below hb,h.2.2.below hb⟩
def Mk(w:World)(lo hi g1 g2 g3:Nat)(cs:List (Int × Int))(ls:List Int)(fs:List (List Int)):Prop :=
 Own w lo (.slice (some ⟨g1,0,none⟩) cs.length cs.length) cs/\zb7 w lo (.slice (some ⟨g2,0,none⟩) ls.length ls.length) ls/\(lo<=g1/\g1<g2/\g2<g3/\g3<hi/\hi<=w.heap.size)/\∃ ad,zcB w g3 w.heap.size (some ⟨g3,0,none⟩) fs.length ad (fun k=>(fs.getD k []).length) (fun k=>(fs.getD k []).length) (fun k j=>(fs.getD k []).getD j 0)/\∀ k x,k<fs.length->ad k=some x->g3<x.block/\x.block<hi
def ScN(w:World)(lo g1 g2 g3:Nat)(cs:List (Int × Int))(ls:List Int)(fs:List (List Int)):Prop:=∀ w':World,w.heap.size<=w'.heap.size->(∀ b,lo<=b->b<w.heap.size->w'.heap[b]?=w.heap[b]?)->ScM w' (some ⟨g1,0,none⟩) (some ⟨g2,0,none⟩) (some ⟨g3,0,none⟩) cs ls fs/\Mk w' lo w.heap.size g1 g2 g3 cs ls fs
theorem Mk.hi{w:World}{lo hi hi' g1 g2 g3:Nat}{cs:List (Int × Int)}{ls:List Int}{fs:List (List Int)}(h:Mk w lo hi g1 g2 g3 cs ls fs)(h1:hi<=hi')(h2:hi'<=w.heap.size):Mk w lo hi' g1 g2 g3 cs ls fs:=by
 obtain⟨q1,q2,q3,ad,q4,q5⟩:=h
 exact⟨q1,q2,by omega,ad,q4,fun k x hk e=>⟨(q5 k x hk e).1,nll (q5 k x hk e).2 h1⟩⟩
theorem ScN.m{lo g1 g2 g3:Nat}(h:ScN w lo g1 g2 g3 cs ls fs):ScM w (some ⟨g1,0,none⟩) (some ⟨g2,0,none⟩) (some ⟨g3,0,none⟩) cs ls fs:=(h w (Nat.le_refl _) fun _ _ _=>rfl).1
theorem ScN.move{lo g1 g2 g3:Nat}(h:ScN w lo g1 g2 g3 cs ls fs)(hs:w.heap.size<=w'.heap.size)(hk:∀ b,lo<=b->b<w.heap.size->w'.heap[b]?=w.heap[b]?):ScN w' lo g1 g2 g3 cs ls fs :=
 fun w2 h1 h2=>have q:=h w2 (Nat.le_trans hs h1) fun b q1 q2=>(h2 b q1 (nll q2 hs)).trans (hk b q1 q2);⟨q.1,q.2.hi hs h1⟩
theorem zcm{v0 v1 v2 v3:Value}(h:w.heap[b]?=some (.cells #[v0,v1,v2,v3] t)):w.cell? ⟨b,0,none⟩=some v0/\w.cell? ⟨b,1,none⟩=some v1/\w.cell? ⟨b,2,none⟩=some v2/\w.cell? ⟨b,3,none⟩=some v3 :=
 ⟨(cell_of_row _ _ 0 _ _ _ h).trans rfl,(cell_of_row _ _ 1 _ _ _ h).trans rfl,(cell_of_row _ _ 2 _ _ _ h).trans rfl,(cell_of_row _ _ 3 _ _ _ h).trans rfl⟩
theorem thaw{xs:Array Value}(h:w.heap[b]?=some (.cells xs t))(i:Nat):w.frozen? ⟨b,i,none⟩=false:=frozen_of_row _ _ _ _ _ h
def zdA(cs:List (Int × Int))(ls:List Int)(fs:List (List Int)):Prop:=cs.length<=1048576/\ls.length<=1048576/\fs.length<=1048576/\∀ k,k<fs.length->(fs.getD k []).length<=1048576
def Fits(cs:List (Int × Int))(ls:List Int)(fs:List (List Int)):Prop:=cs.length<=9223372036854775807/\ls.length<=9223372036854775807/\fs.length<=9223372036854775807/\∀ k,k<fs.length->(fs.getD k []).length<=9223372036854775807
theorem zkn(wd:Int)(g l f:Option Addr)(gc lc fc:Nat)(cs:List (Int × Int))(ls:List Int)(fs:List (List Int))(left:Int)(w:World)(h:zde w f fs)(hS:Fits cs ls fs)(hl:0<=left/\left<=1048576) :
  Calls SqP.prog 6 #[.agg #[.int .i64 wd,.slice g cs.length gc,.slice l ls.length lc,.slice f fs.length fc],.int .i64 left] w fun e w'=>∃ r:Int,e=.returned (.int .i64 r)/\(r<0\/(0<=r/\r<=left)/\zdA cs ls fs)/\Below w.heap.size w w':=by
 obtain⟨s1,s2,s3,s4⟩:=hS
 by_cases n1:left - cs.length<0
 ·clear h
  go_enter SqP.func6,Tryz.ntmps6
  go_wp2_with fail
  refine(zeI _ _ _ _ _ _ s1 hl).mono ?_
  rintro e w1 ⟨rfl,hb1⟩
  rw[if_pos (by omega)]
  go_wp2_with fail
  go_ret
  exact⟨_,rfl,.inl (by omega),zaj bel (by simp) hb1⟩
 have hf:∀(w1:World) (l2:Int),Below w.heap.size w w1->0<=l2/\l2<=1048576->Calls SqP.prog 27 #[.slice f fs.length fc,.int .i64 l2] w1 fun e w'=>∃ r:Int,e=.returned (.int .i64 r)/\(r<0\/(0<=r/\r<=l2)/\fs.length<=1048576/\∀ k,k<fs.length->(fs.getD k []).length<=1048576)/\Below w1.heap.size w1 w':=fun w1 l2 hb h2=>zkm f fc fs l2 w1 (h.below hb) s3 s4 h2
 have HF:Hid (∀(w1:World) (l2:Int),Below w.heap.size w w1->0<=l2/\l2<=1048576->Calls SqP.prog 27 #[.slice f fs.length fc,.int .i64 l2] w1 fun e w'=>∃ r:Int,e=.returned (.int .i64 r)/\(r<0\/(0<=r/\r<=l2)/\fs.length<=1048576/\∀ k,k<fs.length->(fs.getD k []).length<=1048576)/\Below w1.heap.size w1 w'):=hf
 clear hf h s4
 obtain⟨a,ea⟩:∃ a:Int,left - cs.length=a:=⟨_,rfl⟩
 have N1:Hid (¬ left - cs.length<0/\left - cs.length=a):=⟨n1,ea⟩
 have ha:0<=a/\a<=1048576/\(cs.length:Int)<=1048576:=by omega
 clear n1 ea
 by_cases n2:a - ls.length<0
 ·clear HF
  go_enter SqP.func6,Tryz.ntmps6
  go_wp2_with fail
  refine(zeI _ _ _ _ _ _ s1 hl).mono ?_
  rintro e w1 ⟨rfl,hb1⟩
  rw[if_neg (by have:=N1.out;omega),N1.out.2]
  have na:¬ a<0:=by omega
  have p2:w1.cell? ⟨w.heap.size,2,none⟩=some (.slice l ls.length lc):=zab hb1 (by simp[go_sem])
  have hB:Below w.heap.size w w1:=zaj bel (by simp) hb1
  clear hb1
  go_wp2_with fail
  refine(zg3 _ _ _ _ _ s2 (by omega) (by omega)).mono ?_
  rintro e w2 ⟨rfl,rfl⟩
  go_wp2_with fail
  go_ret
  exact⟨_,rfl,.inl (by omega),hB⟩
 have h1:0<=a - ls.length/\a - ls.length<=1048576:=by omega
 have hs:cs.length<=1048576/\ls.length<=1048576:=by omega
 go_enter SqP.func6,Tryz.ntmps6
 go_wp2_with fail
 refine(zeI _ _ _ _ _ _ s1 hl).mono ?_
 rintro e w1 ⟨rfl,hb1⟩
 rw[if_neg (by have:=N1.out;omega),N1.out.2]
 have na:¬ a<0:=by omega
 have p2:w1.cell? ⟨w.heap.size,2,none⟩=some (.slice l ls.length lc):=zab hb1 (by simp[go_sem])
 have p3:w1.cell? ⟨w.heap.size,3,none⟩=some (.slice f fs.length fc):=zab hb1 (by simp[go_sem])
 have hB:Below w.heap.size w w1:=zaj bel (by simp) hb1
 clear hb1
 go_wp2_with fail
 refine(zg4 _ _ _ _ _ s2 (by omega) (by omega)).mono ?_
 rintro e w2 ⟨rfl,rfl⟩
 obtain⟨b,eb⟩:∃ b:Int,a - ls.length=b:=⟨_,rfl⟩
 rw[eb] at h1 ⊢
 have nb:¬ b<0:=by omega
 clear n2
 go_wp2_with fail
 refine(HF.out _ b hB h1).mono ?_
 rintro e w3 ⟨r,rfl,hr,hb3⟩
 have hB3:=zaj hB hB.size hb3
 rcases hr with hr|⟨hr,hr2⟩
 ·go_wp2_with fail
  go_ret
  exact⟨_,rfl,.inl (by omega),hB3⟩
 ·have hn:¬ r<0:=by omega
  go_wp2_with fail
  go_ret
  exact⟨_,rfl,.inr ⟨by have:=N1.out;omega,hs.1,hs.2,hr2⟩,hB3⟩
theorem zjc(o1 o2 o3:Obj)(w:World):(((w.alloc o1).alloc o2).alloc o3).heap[w.heap.size]?=some o1/\(((w.alloc o1).alloc o2).alloc o3).heap[w.heap.size+1]?=some o2/\(((w.alloc o1).alloc o2).alloc o3).heap[w.heap.size+2]?=some o3/\(((w.alloc o1).alloc o2).alloc o3).heap.size=w.heap.size+3/\Below w.heap.size w (((w.alloc o1).alloc o2).alloc o3):=by
 refine⟨?_,?_,?_,?_,bel⟩
 ·show (((w.heap.push o1).push o2).push o3)[w.heap.size]?=some o1
  rw[Array.getElem?_push,if_neg (by simp;omega),Array.getElem?_push,if_neg (by simp),Array.getElem?_push,if_pos rfl]
 ·show (((w.heap.push o1).push o2).push o3)[w.heap.size+1]?=some o2
  rw[Array.getElem?_push,if_neg (by simp),Array.getElem?_push,if_pos (by simp)]
 ·show (((w.heap.push o1).push o2).push o3)[w.heap.size+2]?=some o3
  rw[Array.getElem?_push,if_pos (by simp)]
 ·show (((w.heap.push o1).push o2).push o3).size=_
  simp
structure Cp3(w:World)(B:Nat)(va vr vo:Array Value):Prop where
 a:w.heap[B]?=some (.cells va 28)
 r:w.heap[B+1]?=some (.cells vr 35)
 o:w.heap[B+2]?=some (.cells vo 35)
theorem Cp3.on(h:Cp3 w B va vr vo)(hb:Below w.heap.size w w'):Cp3 w' B va vr vo :=
 ⟨(hb.block _ (gei h.a).1).trans h.a,(hb.block _ (gei h.r).1).trans h.r,(hb.block _ (gei h.o).1).trans h.o⟩
theorem Cp3.put(h:Cp3 w B va vr vo)(i:Nat)(v:Value):Cp3 (w.setCell ⟨B+2,i,none⟩ v) B va vr (vo.setIfInBounds i v) :=
 ⟨(Below.heap_setCell _ _ _ _ (by show B≠B+2;omega)).trans h.a,(Below.heap_setCell _ _ _ _ (by show B+1≠B+2;omega)).trans h.r,heap_setCell_same _ _ _ _ _ _ h.o⟩
set_option maxRecDepth 100000 in
theorem zgj(wd:Int)(g l f:Option Addr)(gc lc fc:Nat)(cs:List (Int × Int))(ls:List Int)(fs:List (List Int))(w:World)(hM:ScM w g l f cs ls fs)(hS:zdA cs ls fs) :
  Calls SqP.prog 8 #[.agg #[.int .i64 wd,.slice g cs.length gc,.slice l ls.length lc,.slice f fs.length fc]] w fun e w'=>∃ g1 g2 g3,e=.returned (.agg #[.int .i64 wd,.slice (some ⟨g1,0,none⟩) cs.length cs.length,.slice (some ⟨g2,0,none⟩) ls.length ls.length,.slice (some ⟨g3,0,none⟩) fs.length fs.length])/\ScN w' w.heap.size g1 g2 g3 cs ls fs/\Below w.heap.size w w':=by
 obtain⟨hg,hl,hf⟩:=hM
 obtain⟨w2,hw2⟩:∃ w2,w2=((w.alloc (.cells #[.int .i64 wd,.slice g cs.length gc,.slice l ls.length lc,.slice f fs.length fc] 28)).alloc (.cells #[.int .i64 0,.slice none 0 0,.slice none 0 0,.slice none 0 0] 35)).alloc (.cells #[.int .i64 0,.slice none 0 0,.slice none 0 0,.slice none 0 0] 35):=⟨_,rfl⟩
 obtain⟨x1,x2,x3,hz2,hb2⟩:=zjc (.cells #[.int .i64 wd,.slice g cs.length gc,.slice l ls.length lc,.slice f fs.length fc] 28) (.cells #[.int .i64 0,.slice none 0 0,.slice none 0 0,.slice none 0 0] 35) (.cells #[.int .i64 0,.slice none 0 0,.slice none 0 0,.slice none 0 0] 35) w
 rw[<- hw2] at x1 x2 x3 hz2 hb2
 have K2:Hid (Cp3 w2 w.heap.size #[.int .i64 wd,.slice g cs.length gc,.slice l ls.length lc,.slice f fs.length fc] #[.int .i64 0,.slice none 0 0,.slice none 0 0,.slice none 0 0] #[.int .i64 0,.slice none 0 0,.slice none 0 0,.slice none 0 0]):=⟨x1,x2,x3⟩
 have B2:Hid (Below w.heap.size w w2):=hb2
 have HI:Hid ((zak w g cs/\zcP w l ls/\zde w f fs)/\zdA cs ls fs):=⟨⟨hg,hl,hf⟩,hS⟩
 have hG:=(zmJ (aLt:=Sq.altP)) wd g gc cs w2 (hg.below hb2) hS.1
 clear x1 x2 x3 hb2 hg hl hf hS
 obtain⟨N,hN⟩:∃ N,cs.length=N:=⟨_,rfl⟩
 obtain⟨P,hP⟩:∃ P,ls.length=P:=⟨_,rfl⟩
 obtain⟨R,hR⟩:∃ R,fs.length=R:=⟨_,rfl⟩
 have HN:Hid (cs.length=N/\ls.length=P/\fs.length=R):=⟨hN,hP,hR⟩
 have hIS:=fun (w:World) (h:zcP w l ls)=>zg5 l lc ls w h HI.out.2.2.1
 have hISS:=fun (w:World) (h:zde w f fs)=>zks f fc fs w h HI.out.2.2.2.1 HI.out.2.2.2.2
 have HIS:Hid (∀ w:World,zcP w l ls->Calls SqP.prog 31 #[.slice l P lc] w fun e w'=>∃ g,e=.returned (.slice (some ⟨g,0,none⟩) P P)/\zb7 w' w.heap.size (.slice (some ⟨g,0,none⟩) P P) ls/\Below w.heap.size w w'):=by rw[<- hP];exact hIS
 have HISS:Hid (∀ w:World,zde w f fs->Calls SqP.prog 32 #[.slice f R fc] w fun e w'=>∃ arr,e=.returned (.slice (some ⟨w.heap.size,0,none⟩) R R)/\Cp2 w w' w.heap.size R R fs arr):=by rw[<- hR];exact hISS
 rw[hN] at hG
 rw[hN,hP,hR] at K2 hw2 ⊢
 clear hN hP hR hIS hISS
 go_enter SqP.func8,Tryz.ntmps8
 go_upto_region 2 with fail
 rw[<- hw2]
 clear hw2
 obtain⟨c0,c1,c2,c3⟩:=zcm K2.out.a
 go_wp2_with fail
 refine hG.mono ?_
 rintro e w3 ⟨g1,rfl,hO,hb3⟩
 have hz3:=hb3.size
 have K3:=K2.out.on hb3
 have B3:Hid (Below w.heap.size w w3):=zaj B2.out B2.out.size hb3
 obtain⟨o0,o1,o2,o3⟩:=zcm K3.o
 have t0:=thaw K3.o 0
 have t1:=thaw K3.o 1
 have hg1:=hO.lt
 have HC3:Hid (Own w3 w.heap.size (.slice (some ⟨g1,0,none⟩) N N) cs/\(w.heap.size+3<=g1/\g1<w3.heap.size)):=⟨hO.mono (by omega),by omega,hg1.2⟩
 clear c0 c1 c2 c3 hO hb3 K2 hG hg1
 have K4:Hid (Cp3 ((w3.setCell ⟨w.heap.size+2,0,none⟩ (.int .i64 wd)).setCell ⟨w.heap.size+2,1,none⟩ (.slice (some ⟨g1,0,none⟩) N N)) w.heap.size #[.int .i64 wd,.slice g N gc,.slice l P lc,.slice f R fc] #[.int .i64 0,.slice none 0 0,.slice none 0 0,.slice none 0 0] #[.int .i64 wd,.slice (some ⟨g1,0,none⟩) N N,.slice none 0 0,.slice none 0 0]):=(K3.put 0 _).put 1 _
 have B4:Hid (Below w.heap.size w ((w3.setCell ⟨w.heap.size+2,0,none⟩ (.int .i64 wd)).setCell ⟨w.heap.size+2,1,none⟩ (.slice (some ⟨g1,0,none⟩) N N))):=(B3.out.setCell (p:=⟨w.heap.size+2,0,none⟩) (by show w.heap.size<=w.heap.size+2;omega) _).setCell (p:=⟨w.heap.size+2,1,none⟩) (by show w.heap.size<=w.heap.size+2;omega) _
 have C4:Hid (Own ((w3.setCell ⟨w.heap.size+2,0,none⟩ (.int .i64 wd)).setCell ⟨w.heap.size+2,1,none⟩ (.slice (some ⟨g1,0,none⟩) N N)) w.heap.size (.slice (some ⟨g1,0,none⟩) N N) cs/\g1<((w3.setCell ⟨w.heap.size+2,0,none⟩ (.int .i64 wd)).setCell ⟨w.heap.size+2,1,none⟩ (.slice (some ⟨g1,0,none⟩) N N)).heap.size):=⟨zfT HC3.out.1 ((Below.heap_setCell _ _ _ _ (by show g1≠w.heap.size+2;have:=HC3.out.2;omega)).trans (Below.heap_setCell _ _ _ _ (by show g1≠w.heap.size+2;have:=HC3.out.2;omega))),by have:=HC3.out.2.2;simpa using this⟩
 have z4:w3.heap.size<=((w3.setCell ⟨w.heap.size+2,0,none⟩ (.int .i64 wd)).setCell ⟨w.heap.size+2,1,none⟩ (.slice (some ⟨g1,0,none⟩) N N)).heap.size:=by simp
 clear K3
 go_upto_region 3 with fail
 obtain⟨w4,hw4⟩:∃ w4,w4=(w3.setCell ⟨w.heap.size+2,0,none⟩ (.int .i64 wd)).setCell ⟨w.heap.size+2,1,none⟩ (.slice (some ⟨g1,0,none⟩) N N):=⟨_,rfl⟩
 rw[<- hw4] at K4 B4 C4 z4 ⊢
 clear hw4 o0 o1 o2 o3 t0 t1 B3
 obtain⟨c0,c1,c2,c3⟩:=zcm K4.out.a
 go_wp2_with fail
 refine(HIS.out w4 (HI.out.1.2.1.below B4.out)).mono ?_
 rintro e w5 ⟨g2,rfl,hO,hb5⟩
 have hz5:=hb5.size
 have K5:=K4.out.on hb5
 have B5:Hid (Below w.heap.size w w5):=zaj B4.out B4.out.size hb5
 have o2:=(zcm K5.o).2.2.1
 have t2:=thaw K5.o 2
 have hg2:=World.ownsRow.lt hO g2 rfl
 have HC5:Hid ((Own w5 w.heap.size (.slice (some ⟨g1,0,none⟩) N N) cs/\zb7 w5 w.heap.size (.slice (some ⟨g2,0,none⟩) P P) ls)/\(g1<w5.heap.size/\g1<g2)/\w.heap.size+3<=g2/\g2<w5.heap.size):=⟨⟨C4.out.1.below hb5,ziN hO (by omega)⟩,by have:=C4.out.2;omega,by omega,hg2.2⟩
 clear c0 c1 c2 c3 hO hb5 K4 hg2 C4 B4
 have K6:Hid (Cp3 (w5.setCell ⟨w.heap.size+2,2,none⟩ (.slice (some ⟨g2,0,none⟩) P P)) w.heap.size #[.int .i64 wd,.slice g N gc,.slice l P lc,.slice f R fc] #[.int .i64 0,.slice none 0 0,.slice none 0 0,.slice none 0 0] #[.int .i64 wd,.slice (some ⟨g1,0,none⟩) N N,.slice (some ⟨g2,0,none⟩) P P,.slice none 0 0]):=K5.put 2 _
 have B6:Hid (Below w.heap.size w (w5.setCell ⟨w.heap.size+2,2,none⟩ (.slice (some ⟨g2,0,none⟩) P P))):=B5.out.setCell (p:=⟨w.heap.size+2,2,none⟩) (by show w.heap.size<=w.heap.size+2;omega) _
 have C6:Hid ((Own (w5.setCell ⟨w.heap.size+2,2,none⟩ (.slice (some ⟨g2,0,none⟩) P P)) w.heap.size (.slice (some ⟨g1,0,none⟩) N N) cs/\zb7 (w5.setCell ⟨w.heap.size+2,2,none⟩ (.slice (some ⟨g2,0,none⟩) P P)) w.heap.size (.slice (some ⟨g2,0,none⟩) P P) ls)/\g1<(w5.setCell ⟨w.heap.size+2,2,none⟩ (.slice (some ⟨g2,0,none⟩) P P)).heap.size/\g2<(w5.setCell ⟨w.heap.size+2,2,none⟩ (.slice (some ⟨g2,0,none⟩) P P)).heap.size):=⟨⟨zfT HC5.out.1.1 (Below.heap_setCell _ _ _ _ (by show g1≠w.heap.size+2;have:=HC3.out.2;omega)),zb2 HC5.out.1.2 (Below.heap_setCell _ _ _ _ (by show g2≠w.heap.size+2;have:=HC5.out.2;omega))⟩,by have:=HC5.out.2;simp;omega,by have:=HC5.out.2;simp;omega⟩
 have z6:w5.heap.size<=(w5.setCell ⟨w.heap.size+2,2,none⟩ (.slice (some ⟨g2,0,none⟩) P P)).heap.size:=by simp
 clear K5
 go_upto_region 4 with fail
 obtain⟨w6,hw6⟩:∃ w6,w6=w5.setCell ⟨w.heap.size+2,2,none⟩ (.slice (some ⟨g2,0,none⟩) P P):=⟨_,rfl⟩
 rw[<- hw6] at K6 B6 C6 z6 ⊢
 clear hw6 o2 t2 B5
 obtain⟨c0,c1,c2,c3⟩:=zcm K6.out.a
 go_wp2_with fail
 refine(HISS.out w6 (HI.out.1.2.2.below B6.out)).mono ?_
 rintro e w7 ⟨arr,rfl,hO⟩
 have hb7:=hO.below
 have hz7:=hb7.size
 have K7:=K6.out.on hb7
 have B7:Hid (Below w.heap.size w w7):=zaj B6.out B6.out.size hb7
 have o3:=(zcm K7.o).2.2.2
 have t3:=thaw K7.o 3
 have HO:Hid (Cp2 w6 w7 w6.heap.size R R fs arr):=hO
 have HC7:Hid (Own w7 w.heap.size (.slice (some ⟨g1,0,none⟩) N N) cs/\zb7 w7 w.heap.size (.slice (some ⟨g2,0,none⟩) P P) ls):=⟨C6.out.1.1.below hb7,zb2 C6.out.1.2 (hb7.block g2 C6.out.2.2)⟩
 have z26:g2<w6.heap.size:=C6.out.2.2
 clear c0 c1 c2 c3 hb7 K6 B6 hO
 obtain⟨g3,eg3⟩:∃ g3,g3=w6.heap.size:=⟨_,rfl⟩
 have z63:w.heap.size+3<=g3/\g2<g3:=by omega
 rw[<- eg3] at HO ⊢
 clear eg3
 have K8:Hid (Cp3 (w7.setCell ⟨w.heap.size+2,3,none⟩ (.slice (some ⟨g3,0,none⟩) R R)) w.heap.size #[.int .i64 wd,.slice g N gc,.slice l P lc,.slice f R fc] #[.int .i64 0,.slice none 0 0,.slice none 0 0,.slice none 0 0] #[.int .i64 wd,.slice (some ⟨g1,0,none⟩) N N,.slice (some ⟨g2,0,none⟩) P P,.slice (some ⟨g3,0,none⟩) R R]):=K7.put 3 _
 have B8:Hid (Below w.heap.size w (w7.setCell ⟨w.heap.size+2,3,none⟩ (.slice (some ⟨g3,0,none⟩) R R))):=B7.out.setCell (p:=⟨w.heap.size+2,3,none⟩) (by show w.heap.size<=w.heap.size+2;omega) _
 have F8:Hid ((∀ b,b≠w.heap.size+2->(w7.setCell ⟨w.heap.size+2,3,none⟩ (.slice (some ⟨g3,0,none⟩) R R)).heap[b]?=w7.heap[b]?)/\w7.heap.size=(w7.setCell ⟨w.heap.size+2,3,none⟩ (.slice (some ⟨g3,0,none⟩) R R)).heap.size):=⟨fun b hb=>Below.heap_setCell _ _ _ _ hb,by simp⟩
 clear K7
 go_upto_region 5 with fail
 obtain⟨w8,hw8⟩:∃ w8,w8=w7.setCell ⟨w.heap.size+2,3,none⟩ (.slice (some ⟨g3,0,none⟩) R R):=⟨_,rfl⟩
 rw[<- hw8] at K8 B8 F8 ⊢
 clear hw8 o3 t3 B7
 obtain⟨c0,c1,c2,c3⟩:=zcm K8.out.o
 obtain⟨q0,q1,q2,q3⟩:=zcm K8.out.r
 have t0:=thaw K8.out.r 0
 have t1:=thaw K8.out.r 1
 have t2:=thaw K8.out.r 2
 have t3:=thaw K8.out.r 3
 go_wp2_with fail
 refine bodyPost_ret (v:=.agg #[.int .i64 wd,.slice (some ⟨g1,0,none⟩) N N,.slice (some ⟨g2,0,none⟩) P P,.slice (some ⟨g3,0,none⟩) R R]) (by simp[results,Tryz.results8,go_sem,q0,q1,q2,q3]) rfl ⟨g1,g2,g3,rfl,?_,?_⟩
 ·have e1:=HC3.out.2
  have e2:=HC5.out.2
  have e8:=F8.out.2
  intro w9 hs9 hk9
  have hsz:(((((w8.setCell ⟨w.heap.size+1,0,none⟩ (.int .i64 wd)).setCell ⟨w.heap.size+1,1,none⟩ (.slice (some ⟨g1,0,none⟩) N N)).setCell ⟨w.heap.size+1,2,none⟩ (.slice (some ⟨g2,0,none⟩) P P)).setCell ⟨w.heap.size+1,3,none⟩ (.slice (some ⟨g3,0,none⟩) R R))).heap.size=w8.heap.size:=by simp
  have hk:∀ b,w.heap.size+3<=b->b<w8.heap.size->w9.heap[b]?=w7.heap[b]?:=fun b q1 q2=>by
   rw[hk9 b (by omega) (by rw[hsz];exact q2),Below.heap_setCell _ _ _ _ (by show b≠w.heap.size+1;omega),Below.heap_setCell _ _ _ _ (by show b≠w.heap.size+1;omega),Below.heap_setCell _ _ _ _ (by show b≠w.heap.size+1;omega),Below.heap_setCell _ _ _ _ (by show b≠w.heap.size+1;omega)]
   exact F8.out.1 b (by omega)
  rw[hsz] at hs9
  have o1:=zfT HC7.out.1 (hk g1 (by omega) (by omega))
  have o2:=zb2 HC7.out.2 (hk g2 (by omega) (by omega))
  have hOl:=(gei HO.out.top).1
  obtain⟨ad,o3,o4⟩:=HO.out.rows HN.out.2.2 (by omega) fun b q1 q2=>hk b (by omega) (by omega)
  refine⟨⟨?_,ziQ o2,HO.out.r2 HN.out.2.2 (by omega) fun b q1 q2=>hk b (by omega) (by omega)⟩,?_,?_,by rw[hsz];omega,ad,o3,fun k x hk e=>⟨(o4 k x hk e).1,by rw[hsz];have:=(o4 k x hk e).2;omega⟩⟩
  ·obtain⟨a,c,e,q⟩:=o1.slice
   cases e
   exact q
  ·rw[HN.out.1];exact o1
  ·rw[HN.out.2.1];exact o2
 ·exact(((B8.out.setCell (p:=⟨w.heap.size+1,0,none⟩) (by show w.heap.size<=w.heap.size+1;omega) _).setCell (p:=⟨w.heap.size+1,1,none⟩) (by show w.heap.size<=w.heap.size+1;omega) _).setCell (p:=⟨w.heap.size+1,2,none⟩) (by show w.heap.size<=w.heap.size+1;omega) _).setCell (p:=⟨w.heap.size+1,3,none⟩) (by show w.heap.size<=w.heap.size+1;omega) _
theorem zdH(wd:Int)(g l f:Option Addr)(gc lc fc:Nat)(cs:List (Int × Int))(ls:List Int)(fs:List (List Int))(w:World)(hM:ScM w g l f cs ls fs)(hS:zdA cs ls fs) :
  Calls SqP.prog 8 #[.agg #[.int .i64 wd,.slice g cs.length gc,.slice l ls.length lc,.slice f fs.length fc]] w fun e w'=>∃ g1 g2 g3,e=.returned (.agg #[.int .i64 wd,.slice (some ⟨g1,0,none⟩) cs.length cs.length,.slice (some ⟨g2,0,none⟩) ls.length ls.length,.slice (some ⟨g3,0,none⟩) fs.length fs.length])/\ScM w' (some ⟨g1,0,none⟩) (some ⟨g2,0,none⟩) (some ⟨g3,0,none⟩) cs ls fs/\Below w.heap.size w w' :=
 (zgj wd g l f gc lc fc cs ls fs w hM hS).mono fun e w' ⟨g1,g2,g3,h1,h2,h3⟩=>⟨g1,g2,g3,h1,h2.m,h3⟩
theorem zmM(o1 o2:Obj)(w:World):((w.alloc o1).alloc o2).heap[w.heap.size]?=some o1/\((w.alloc o1).alloc o2).heap[w.heap.size+1]?=some o2/\Below w.heap.size w ((w.alloc o1).alloc o2):=by
 refine⟨?_,?_,bel⟩
 ·show ((w.heap.push o1).push o2)[w.heap.size]?=some o1
  rw[Array.getElem?_push,if_neg (by simp),Array.getElem?_push,if_pos rfl]
 ·show ((w.heap.push o1).push o2)[w.heap.size+1]?=some o2
  rw[Array.getElem?_push,if_pos (by simp)]
theorem znk(wd:Int)(g l f g2 l2 f2:Option Addr)(gc lc fc gc2 lc2 fc2:Nat)(cs:List (Int × Int))(ls:List Int)(fs:List (List Int))(w:World)(hg:zak w g cs)(hl:zcP w l ls)(hf:zde w f fs)(hg2:zak w g2 cs)(hl2:zcP w l2 ls)(hf2:zde w f2 fs)(hS:zdA cs ls fs) :
  Calls SqP.prog 11 #[.agg #[.int .i64 wd,.slice g cs.length gc,.slice l ls.length lc,.slice f fs.length fc],.agg #[.int .i64 wd,.slice g2 cs.length gc2,.slice l2 ls.length lc2,.slice f2 fs.length fc2]] w fun e w'=>e=.returned (.bool true)/\Below w.heap.size w w':=by
 obtain⟨w2,hw2⟩:∃ w2,w2=(w.alloc (.cells #[.int .i64 wd,.slice g cs.length gc,.slice l ls.length lc,.slice f fs.length fc] 35)).alloc (.cells #[.int .i64 wd,.slice g2 cs.length gc2,.slice l2 ls.length lc2,.slice f2 fs.length fc2] 35):=⟨_,rfl⟩
 obtain⟨x1,x2,hb2⟩:=zmM (.cells #[.int .i64 wd,.slice g cs.length gc,.slice l ls.length lc,.slice f fs.length fc] 35) (.cells #[.int .i64 wd,.slice g2 cs.length gc2,.slice l2 ls.length lc2,.slice f2 fs.length fc2] 35) w
 rw[<- hw2] at x1 x2 hb2
 have H2:Hid (Below w.heap.size w w2):=hb2
 have X2:Hid (w2.heap[w.heap.size]?=some (.cells #[.int .i64 wd,.slice g cs.length gc,.slice l ls.length lc,.slice f fs.length fc] 35)/\w2.heap[w.heap.size+1]?=some (.cells #[.int .i64 wd,.slice g2 cs.length gc2,.slice l2 ls.length lc2,.slice f2 fs.length fc2] 35)):=⟨x1,x2⟩
 have hG:=(zlE (aLt:=Sq.altP)) wd wd g g2 gc gc2 cs cs w2 (hg.below hb2) (hg2.below hb2) hS.1 hS.1
 have eG:eqG wd wd cs cs=true:=by simp[eqG]
 rw[eG] at hG
 have HI:Hid (∀ w',Below w.heap.size w w'->Calls SqP.prog 10 #[.slice l ls.length lc,.slice l2 ls.length lc2] w' fun e w''=>e=.returned (.bool true)/\Below w'.heap.size w' w''):=fun w' hb=>zij l l2 lc lc2 ls w' (hl.below hb) (hl2.below hb) hS.2.1
 have HJ:Hid (∀ w',Below w.heap.size w w'->Calls SqP.prog 36 #[.slice f fs.length fc,.slice f2 fs.length fc2] w' fun e w''=>e=.returned (.bool true)/\Below w'.heap.size w' w''):=fun w' hb=>zni f f2 fc fc2 fs w' (hf.below hb) (hf2.below hb) hS.2.2.1 hS.2.2.2
 clear eG hg hl hf hg2 hl2 hf2 hS x1 x2 hb2
 obtain⟨N,hN⟩:∃ N,cs.length=N:=⟨_,rfl⟩
 obtain⟨P,hP⟩:∃ P,ls.length=P:=⟨_,rfl⟩
 obtain⟨R,hR⟩:∃ R,fs.length=R:=⟨_,rfl⟩
 rw[hN] at hG
 rw[hP] at HI
 rw[hR] at HJ
 rw[hN,hP,hR] at X2 hw2 ⊢
 clear hN hP hR
 go_enter SqP.func11,Tryz.ntmps11
 go_upto_region 1 with fail
 rw[<- hw2]
 clear hw2
 obtain⟨c0,c1,c2,c3⟩:=zcm X2.out.1
 obtain⟨d0,d1,d2,d3⟩:=zcm X2.out.2
 clear X2
 go_wp2_with fail
 refine hG.mono ?_
 rintro e w3 ⟨rfl,hb⟩
 have H3:Hid (Below w.heap.size w w3):=zaj H2.out H2.out.size hb
 replace c2:=zab hb c2;replace c3:=zab hb c3;replace d2:=zab hb d2;replace d3:=zab hb d3
 clear hb hG c0 c1 d0 d1 H2
 go_wp2_with fail
 refine(HI.out w3 H3.out).mono ?_
 rintro e w4 ⟨rfl,hb⟩
 have H4:Hid (Below w.heap.size w w4):=zaj H3.out H3.out.size hb
 replace c3:=zab hb c3;replace d3:=zab hb d3
 clear hb c2 d2 H3
 go_wp2_with fail
 refine(HJ.out w4 H4.out).mono ?_
 rintro e w5 ⟨rfl,hb⟩
 go_wp2_with fail
 go_ret
 exact⟨rfl,zaj H4.out H4.out.size hb⟩
