/- Part. -/
import Derived.Test.YthfhphdofgkjhaaGreatLBi
set_option maxHeartbeats 2000000
set_option linter.unusedVariables false
namespace Go.Proofs.YthfhphdofgkjhaaGreat
variable{wd:Int}{es ns:List (Int × Int × Int)}{cs:List (Int × Int)}{fs:List (List Int)}{ls:List Int}{M N b n:Nat}{l:Nat->Int}{cp:Nat->Nat}{f:Nat->Nat->Int}{ad ad2:Nat->Option Addr}{a fa ga la:Option Addr}{t:TypeId}{w w':World}
namespace Sp
open Go.RowKit
attribute [local go_sem ↓] Go.wp_at_zero Go.wp_at_succ
def zn2(w:World)(a:Option Addr)(es:List (Int × Int × Int)):Prop:=es=[]\/∃ b off,a=some ⟨b,off,none⟩/\b<w.heap.size/\∀ i,i<es.length->w.cell? ⟨b,off+i * 3,none⟩=some (.int .i64 (es.getD i (0,0,0)).1)/\w.cell? ⟨b,off+i * 3+1,none⟩=some (.int .i64 (es.getD i (0,0,0)).2.1)/\w.cell? ⟨b,off+i * 3+2,none⟩=some (.int .i64 (es.getD i (0,0,0)).2.2)
theorem zn2.below(h:zn2 w a es)(hb:Below w.heap.size w w'):zn2 w' a es:=by
 rcases h with h|⟨b,off,rfl,hl,hc⟩
 ·exact .inl h
 ·exact .inr ⟨b,off,rfl,nll hl hb.size,fun i hi=>⟨zab hb (hc i hi).1,zab hb (hc i hi).2.1,zab hb (hc i hi).2.2⟩⟩
theorem zn2.at{w:World}{a:Option Addr}{es:List (Int × Int × Int)}(h:zn2 w a es){i:Nat}(hi:i<es.length):∃ b off x k l,a=some ⟨b,off,none⟩/\es.getD i (0,0,0)=(x,k,l)/\w.cell? ⟨b,off+i * 3,none⟩=some (.int .i64 x)/\w.cell? ⟨b,off+i * 3+1,none⟩=some (.int .i64 k)/\w.cell? ⟨b,off+i * 3+2,none⟩=some (.int .i64 l):=by
 rcases h with rfl|⟨b,off,rfl,_,hc⟩
 ·simp at hi
 ·obtain⟨h1,h2,h3⟩:=hc i hi
  exact⟨b,off,_,_,_,rfl,rfl,h1,h2,h3⟩
theorem zoV{v0 v1 v2:Value}(h:w.heap[b]?=some (.cells #[v0,v1,v2] t)):w.cell? ⟨b,0,none⟩=some v0/\w.cell? ⟨b,1,none⟩=some v1/\w.cell? ⟨b,2,none⟩=some v2 :=
 ⟨(cell_of_row _ _ 0 _ _ _ h).trans rfl,(cell_of_row _ _ 1 _ _ _ h).trans rfl,(cell_of_row _ _ 2 _ _ _ h).trans rfl⟩
def zq6(n:Nat)(es:List (Int × Int × Int)):Bool:=es.all fun e=>inP e.1 n && okC e.2.1 e.2.2
theorem zms{i:Nat}(hi:i<es.length)(h:(inP (es.getD i (0,0,0)).1 n && okC (es.getD i (0,0,0)).2.1 (es.getD i (0,0,0)).2.2)=false):zq6 n es=false:=by
 unfold zq6
 rw[List.all_eq_false]
 refine⟨es.getD i (0,0,0),?_,by simpa using h⟩
 simp[List.getD,List.getElem?_eq_getElem hi]
theorem zov(h:∀ i,i<es.length->(inP (es.getD i (0,0,0)).1 n && okC (es.getD i (0,0,0)).2.1 (es.getD i (0,0,0)).2.2)=true):zq6 n es=true:=by
 unfold zq6
 rw[List.all_eq_true]
 intro e he
 obtain⟨i,hi,rfl⟩:=List.getElem_of_mem he
 have:=h i hi
 simpa [List.getD,List.getElem?_eq_getElem hi] using this
set_option maxRecDepth 100000 in
theorem zfm(wd:Int)(g a:Option Addr)(gc ac n:Nat)(es:List (Int × Int × Int))(w:World)(h:zn2 w a es)(hn:n<=1048576)(hm:es.length<=1048576) :
  Calls SqP.prog 29 #[.agg #[.int .i64 wd,.slice g n gc],.slice a es.length ac] w fun e w'=>e=.returned (.bool (decide (es.length<=12) && zq6 n es))/\Below w.heap.size w w':=by
 obtain⟨N,hN⟩:∃ N,es.length=N:=⟨_,rfl⟩
 by_cases hbig:12<N
 ·have HQ:Hid (12<N):=hbig
  have hb:(12:Int)<(N:Int):=by omega
  rw[hN]
  clear h hbig hN
  go_enter SqP.func29,Tryz.ntmps29
  go_wp2_with fail
  go_ret
  exact⟨by have h:=HQ.out;have h2:¬ N<=12:=by omega
           simp[h2],bel⟩
 have hs:¬ (12:Int)<(N:Int):=by omega
 have HN:Hid (es.length=N):=hN
 have HS:Hid (N<=12):=by show _<=_;omega
 obtain⟨w2,hw2⟩:∃ w2,w2=w.alloc (.cells #[.int .i64 wd,.slice g n gc] 25):=⟨_,rfl⟩
 obtain⟨x1,hb2⟩:=za5 (.cells #[.int .i64 wd,.slice g n gc] 25) w
 rw[<- hw2] at x1 hb2
 have H2:Hid (Below w.heap.size w w2):=hb2
 have hE:=h.below hb2
 rw[hN]
 clear h hbig hN hb2 hm
 have c0:w2.cell? ⟨w.heap.size,0,none⟩=some (.int .i64 wd):=(cell_of_row _ _ 0 _ _ _ x1).trans rfl
 have c1:w2.cell? ⟨w.heap.size,1,none⟩=some (.slice g n gc):=(cell_of_row _ _ 1 _ _ _ x1).trans rfl
 clear x1
 go_enter SqP.func29,Tryz.ntmps29
 go_upto_region 1 with fail
 rw[<- hw2]
 clear hw2
 go_wp2_with fail
 go_loopw [12,6] (fun ii _ wr=>∃ i:Nat,i<=N/\ii=.int .i64 i/\(∀ j,j<i->(inP (es.getD j (0,0,0)).1 n && okC (es.getD j (0,0,0)).2.1 (es.getD j (0,0,0)).2.2)=true)/\Below w2.heap.size w2 wr) (fun ii _ _=>N - (intOf ii).toNat)
 case atStart=>exact⟨0,Nat.zero_le _,rfl,fun j hj=>by omega,Below.refl _ _⟩
 case round =>
  rename World=>wo
  obtain⟨i,hi,rfl,hsame,hb⟩:=hrel
  have hzo:=hb.size
  have HSame:Hid (∀ j,j<i->(inP (es.getD j (0,0,0)).1 n && okC (es.getD j (0,0,0)).2.1 (es.getD j (0,0,0)).2.2)=true):=hsame
  clear hsame
  replace c0:=zab hb c0;replace c1:=zab hb c1
  by_cases hlt:i<N
  ·obtain⟨b,off,x,k,l,rfl,he,x0,x1,x2⟩:=(hE.below hb).at (i:=i) (by have:=HN.out;omega)
   have hltI:(i:Int)<(N:Int):=by omega
   have wk:IntKind.i64.wrap ((i:Int)+1)=(i:Int)+1:=IntWalk.i64_in _ (by have:=HS.out;omega)
   have HE:Hid (es.getD i (0,0,0)=(x,k,l)):=he
   obtain⟨y1,hb3⟩:=za5 (.cells #[.int .i64 x,.int .i64 k,.int .i64 l] 71) wo
   obtain⟨e0,e1,e2⟩:=zoV y1
   have g0:=zab hb3 c0
   have g1:=zab hb3 c1
   have hb4:=zak hb hzo hb3
   clear hE he y1 hb3
   go_upto_region 6 with fail
   obtain⟨w3,hw3⟩:∃ w3,w3=wo.alloc (.cells #[.int .i64 x,.int .i64 k,.int .i64 l] 71):=⟨_,rfl⟩
   rw[<- hw3] at e0 e1 e2 g0 g1 hb4 ⊢
   clear hw3 x0 x1 x2 c0 c1 hb
   have hP:=(zbB (aLt:=Sq.altP)) x wd g n gc (by omega) w3
   obtain⟨p,ep⟩:∃ p,inP x n=p:=⟨_,rfl⟩
   obtain⟨q,eq⟩:∃ q,okC k l=q:=⟨_,rfl⟩
   have HP:Hid (inP x n=p/\okC k l=q):=⟨ep,eq⟩
   have hK:=fun w=>(zck (aLt:=Sq.altP)) k l w
   rw[ep] at hP
   rw[eq] at hK
   clear ep eq
   rcases p with _|_
   ·go_wp2_with fail
    refine hP.mono ?_
    rintro e w4 ⟨rfl,hb5⟩
    have hb6:=zak H2.out H2.out.size (zak hb4 hb4.size hb5)
    clear hP hK e0 e1 e2 g0 g1 hb5
    go_wp2_with fail
    go_ret
    refine⟨?_,hb6⟩
    rw[zms (i:=i) (by have:=HN.out;omega) (by rw[HE.out];have:=HP.out.1;simp[this])]
    simp
   ·go_wp2_with fail
    refine hP.mono ?_
    rintro e w4 ⟨rfl,hb5⟩
    replace e0:=zab hb5 e0;replace e1:=zab hb5 e1;replace e2:=zab hb5 e2
    have hb6:=zak hb4 hb4.size hb5
    clear hP g0 g1 hb5
    rcases q with _|_
    ·go_wp2_with fail
     refine(hK _).mono ?_
     rintro e w5 ⟨rfl,hb7⟩
     have hb8:=zak H2.out H2.out.size (zak hb6 hb6.size hb7)
     clear hK e0 e1 e2 hb7
     go_wp2_with fail
     go_ret
     refine⟨?_,hb8⟩
     rw[zms (i:=i) (by have:=HN.out;omega) (by rw[HE.out];have:=HP.out.2;simp[this])]
     simp
    ·go_wp2_with fail
     refine(hK _).mono ?_
     rintro e w5 ⟨rfl,hb7⟩
     have hb8:=zak hb6 hb6.size hb7
     clear hK e0 e1 e2 hb7
     go_wp2_with fail
     go_roundw
     case rel =>
      refine⟨i+1,by omega,by go_num,fun j hj=>?_,hb8⟩
      rcases Nat.lt_succ_iff_lt_or_eq.1 hj with z|rfl
      ·exact HSame.out j z
      ·rw[HE.out];have:=HP.out;simp[this.1,this.2]
     case measure=>simp[intOf];omega
  ·have hnl:¬ (i:Int)<(N:Int):=by omega
   have hb6:=zak H2.out H2.out.size hb
   go_wp2_with fail
   go_ret
   refine⟨?_,hb6⟩
   have e1:zq6 n es=true:=zov fun j hj=>HSame.out j (by have:=HN.out;omega)
   rw[e1]
   simp[HS.out]
theorem zgn{v0 v1 v2 v3 v4 v5:Value}(h:w.heap[b]?=some (.cells #[v0,v1,v2,v3,v4,v5] t)):w.cell? ⟨b,0,none⟩=some v0/\w.cell? ⟨b,1,none⟩=some v1/\w.cell? ⟨b,2,none⟩=some v2/\w.cell? ⟨b,3,none⟩=some v3/\w.cell? ⟨b,4,none⟩=some v4/\w.cell? ⟨b,5,none⟩=some v5 :=
 ⟨(cell_of_row _ _ 0 _ _ _ h).trans rfl,(cell_of_row _ _ 1 _ _ _ h).trans rfl,(cell_of_row _ _ 2 _ _ _ h).trans rfl,(cell_of_row _ _ 3 _ _ _ h).trans rfl,(cell_of_row _ _ 4 _ _ _ h).trans rfl,(cell_of_row _ _ 5 _ _ _ h).trans rfl⟩
def AlM(w:World)(g l f p x:Option Addr)(cs:List (Int × Int))(ls:List Int)(fs:List (List Int))(es ns:List (Int × Int × Int)):Prop:=ScM w g l f cs ls fs/\zn2 w p es/\zn2 w x ns
theorem AlM.below{g l f p x:Option Addr}(h:AlM w g l f p x cs ls fs es ns)(hb:Below w.heap.size w w'):AlM w' g l f p x cs ls fs es ns:=⟨h.1.below hb,h.2.1.below hb,h.2.2.below hb⟩
set_option maxRecDepth 100000 in
theorem zft(wd:Int)(g l f p x:Option Addr)(gc lc fc pc xc:Nat)(cs:List (Int × Int))(ls:List Int)(fs:List (List Int))(es ns:List (Int × Int × Int))(w:World)(hM:AlM w g l f p x cs ls fs es ns){a1 a2 b:Bool}(hE1:∀(w:World),zn2 w p es->Calls SqP.prog 29 #[.agg #[.int .i64 wd,.slice g cs.length gc],.slice p es.length pc] w fun e w'=>e=.returned (.bool a1)/\Below w.heap.size w w')(hE2:∀(w:World),zn2 w x ns->Calls SqP.prog 29 #[.agg #[.int .i64 wd,.slice g cs.length gc],.slice x ns.length xc] w fun e w'=>e=.returned (.bool a2)/\Below w.heap.size w w')(hC:∀(w:World),ScM w g l f cs ls fs->Calls SqP.prog 30 #[.agg #[.int .i64 wd,.slice g cs.length gc,.slice l ls.length lc,.slice f fs.length fc]] w fun e w'=>e=.returned (.bool b)/\Below w.heap.size w w') :
  Calls SqP.prog 12 #[.agg #[.int .i64 wd,.slice g cs.length gc,.slice l ls.length lc,.slice f fs.length fc,.slice p es.length pc,.slice x ns.length xc]] w fun e w'=>e=.returned (.bool (a1 && a2 && b))/\Below w.heap.size w w':=by
 obtain⟨w2,hw2⟩:∃ w2,w2=w.alloc (.cells #[.int .i64 wd,.slice g cs.length gc,.slice l ls.length lc,.slice f fs.length fc,.slice p es.length pc,.slice x ns.length xc] 33):=⟨_,rfl⟩
 obtain⟨y1,hb2⟩:=za5 (.cells #[.int .i64 wd,.slice g cs.length gc,.slice l ls.length lc,.slice f fs.length fc,.slice p es.length pc,.slice x ns.length xc] 33) w
 rw[<- hw2] at y1 hb2
 have H2:Hid (Below w.heap.size w w2):=hb2
 have H1':=fun (w1:World) (hb:Below w.heap.size w w1)=>hE1 w1 (hM.2.1.below hb)
 have H2':=fun (w1:World) (hb:Below w.heap.size w w1)=>hE2 w1 (hM.2.2.below hb)
 have H3':=fun (w1:World) (hb:Below w.heap.size w w1)=>hC w1 (hM.1.below hb)
 obtain⟨N,hN⟩:∃ N,cs.length=N:=⟨_,rfl⟩
 obtain⟨P,hP⟩:∃ P,ls.length=P:=⟨_,rfl⟩
 obtain⟨R,hR⟩:∃ R,fs.length=R:=⟨_,rfl⟩
 obtain⟨U,hU⟩:∃ U,es.length=U:=⟨_,rfl⟩
 obtain⟨V,hV⟩:∃ V,ns.length=V:=⟨_,rfl⟩
 rw[hN,hU] at H1'
 rw[hN,hV] at H2'
 rw[hN,hP,hR] at H3'
 have E1:Hid (∀ w1:World,Below w.heap.size w w1->_):=H1'
 have E2:Hid (∀ w1:World,Below w.heap.size w w1->_):=H2'
 have E3:Hid (∀ w1:World,Below w.heap.size w w1->_):=H3'
 rw[hN,hP,hR,hU,hV] at hw2 y1 ⊢
 clear H1' H2' H3' hE1 hE2 hC hM hb2 hN hP hR hU hV
 obtain⟨c0,c1,c2,c3,c4,c5⟩:=zgn y1
 clear y1
 go_enter SqP.func12,Tryz.ntmps12
 go_upto_region 1 with fail
 rw[<- hw2]
 clear hw2
 rcases a1 with _|_
 ·go_wp2_with fail
  refine(E1.out w2 H2.out).mono ?_
  rintro e w3 ⟨rfl,hb⟩
  have Bw3:Below w.heap.size w w3:=zak H2.out (H2.out).size hb
  replace c0:=zab hb c0;replace c1:=zab hb c1;replace c2:=zab hb c2;replace c3:=zab hb c3;replace c4:=zab hb c4;replace c5:=zab hb c5
  clear hb
  go_wp2_with fail
  go_ret
  exact⟨by simp,Bw3⟩
 go_wp2_with fail
 refine(E1.out w2 H2.out).mono ?_
 rintro e w3 ⟨rfl,hb⟩
 have Bw3:Below w.heap.size w w3:=zak H2.out (H2.out).size hb
 replace c0:=zab hb c0;replace c1:=zab hb c1;replace c2:=zab hb c2;replace c3:=zab hb c3;replace c4:=zab hb c4;replace c5:=zab hb c5
 clear hb
 rcases a2 with _|_
 ·go_wp2_with fail
  refine(E2.out w3 Bw3).mono ?_
  rintro e w4 ⟨rfl,hb⟩
  have Bw4:Below w.heap.size w w4:=zak Bw3 (Bw3).size hb
  replace c0:=zab hb c0;replace c1:=zab hb c1;replace c2:=zab hb c2;replace c3:=zab hb c3;replace c4:=zab hb c4;replace c5:=zab hb c5
  clear hb
  go_wp2_with fail
  go_ret
  exact⟨by simp,Bw4⟩
 go_wp2_with fail
 refine(E2.out w3 Bw3).mono ?_
 rintro e w4 ⟨rfl,hb⟩
 have Bw4:Below w.heap.size w w4:=zak Bw3 (Bw3).size hb
 replace c0:=zab hb c0;replace c1:=zab hb c1;replace c2:=zab hb c2;replace c3:=zab hb c3;replace c4:=zab hb c4;replace c5:=zab hb c5
 clear hb
 go_wp2_with fail
 refine(E3.out w4 Bw4).mono ?_
 rintro e w5 ⟨rfl,hb⟩
 have Bw5:Below w.heap.size w w5:=zak Bw4 (Bw4).size hb
 replace c0:=zab hb c0;replace c1:=zab hb c1;replace c2:=zab hb c2;replace c3:=zab hb c3;replace c4:=zab hb c4;replace c5:=zab hb c5
 clear hb
 go_wp2_with fail
 go_ret
 exact⟨by simp,Bw5⟩
theorem zeA(a a2:Option Addr)(c c2:Nat)(w:World) :
  Calls SqP.prog 16 #[.slice a 0 c,.slice a2 0 c2] w fun e w'=>e=.returned (.bool true)/\w'=w:=by
 go_enter SqP.func16,Tryz.ntmps16
 go_wp2_with fail
 go_loop [5] (fun i=>i=.int .i64 0) (fun _=>0)
 case atStart=>exact rfl
 case round =>
  obtain rfl:=hrel
  go_wp2_with fail
  go_ret
  exact⟨rfl,rfl⟩
theorem zr3{n:Nat->Nat}{ga2 la2 fa2 pa pa2 na na2:Option Addr}{gc lc fc gc2 lc2 fc2 pc pc2 nc nc2 B hi B2 hi2:Nat}{cp2:Nat->Nat}(h:Sn w B hi N cs M l n f ga la fa gc ad cp)(h2:Sn w B2 hi2 N cs M l n f ga2 la2 fa2 gc2 ad2 cp2)(hN:cs.length=N)(hm:N<=25)(hM:M<=20)(hn:∀ k,k<M->n k<=1000) :
  Calls SqP.prog 7 #[.agg #[.int .i64 wd,.slice ga N gc,.slice la M lc,.slice fa M fc,.slice pa 0 pc,.slice na 0 nc],.agg #[.int .i64 wd,.slice ga2 N gc2,.slice la2 M lc2,.slice fa2 M fc2,.slice pa2 0 pc2,.slice na2 0 nc2]] w fun e w'=>e=.returned (.bool true)/\Below w.heap.size w w':=by
 obtain⟨w2,hw2⟩:∃ w2,w2=(w.alloc (.cells #[.int .i64 wd,.slice ga N gc,.slice la M lc,.slice fa M fc,.slice pa 0 pc,.slice na 0 nc] 33)).alloc (.cells #[.int .i64 wd,.slice ga2 N gc2,.slice la2 M lc2,.slice fa2 M fc2,.slice pa2 0 pc2,.slice na2 0 nc2] 33):=⟨_,rfl⟩
 obtain⟨x1,x2,hb2⟩:=zcv (.cells #[.int .i64 wd,.slice ga N gc,.slice la M lc,.slice fa M fc,.slice pa 0 pc,.slice na 0 nc] 33) (.cells #[.int .i64 wd,.slice ga2 N gc2,.slice la2 M lc2,.slice fa2 M fc2,.slice pa2 0 pc2,.slice na2 0 nc2] 33) w
 rw[<- hw2] at x1 x2 hb2
 have H2:Hid (Below w.heap.size w w2):=hb2
 have HS:Hid (Calls SqP.prog 11 #[.agg #[.int .i64 wd,.slice ga N gc,.slice la M lc,.slice fa M fc],.agg #[.int .i64 wd,.slice ga2 N gc2,.slice la2 M lc2,.slice fa2 M fc2]] w2 fun e w'=>e=.returned (.bool true)/\Below w2.heap.size w2 w'):=zsd (h.below hb2) (h2.below hb2) hN hm hM hn
 clear h h2 hN hb2
 obtain⟨c0,c1,c2,c3,c4,c5⟩:=zgn x1
 obtain⟨d0,d1,d2,d3,d4,d5⟩:=zgn x2
 clear x1 x2
 go_enter SqP.func7,Tryz.ntmps7
 go_upto_region 1 with fail
 rw[<- hw2]
 clear hw2
 go_wp2_with fail
 refine HS.out.mono ?_
 rintro e w3 ⟨rfl,hb⟩
 have H3:Hid (Below w.heap.size w w3):=zak H2.out H2.out.size hb
 replace c4:=zab hb c4;replace c5:=zab hb c5;replace d4:=zab hb d4;replace d5:=zab hb d5
 clear hb c0 c1 c2 c3 d0 d1 d2 d3 HS
 go_wp2_with fail
 refine(zeA _ _ _ _ _).mono ?_
 rintro e w4 ⟨rfl,rfl⟩
 go_wp2_with fail
 refine(zeA _ _ _ _ _).mono ?_
 rintro e w4 ⟨rfl,rfl⟩
 go_wp2_with fail
 go_ret
 exact⟨rfl,H3.out⟩
theorem zhK{W H:Nat}(S:Siz wd cs W H)(hM:2 * (W+H)=M)(hN:cs.length=N)(hM20:M<=20)(hnf:∀ k:Nat,k<M->(zaH wd cs (k:Int)).length<=1000){B hi:Nat}{gc lc fc:Nat}(h:Sn w B hi N cs M (fun j=>zaW wd cs (j:Int)) (fun j=>(zaH wd cs (j:Int)).length) (fun j i=>(zaH wd cs (j:Int)).getD i 0) ga la fa gc ad cp)(pa na:Option Addr)(pc nc:Nat) :
  Calls SqP.prog 12 #[.agg #[.int .i64 wd,.slice ga N gc,.slice la M lc,.slice fa M fc,.slice pa 0 pc,.slice na 0 nc]] w fun e w'=>e=.returned (.bool true)/\Below w.heap.size w w':=by
 have hn25:=(zjK S).1.1
 have hx:∀ k,k<((List.range M).map fun (k:Nat)=>(List.range (zaH wd cs (k:Int)).length).map fun i=>(zaH wd cs (k:Int)).getD i 0).length->(((List.range M).map fun (k:Nat)=>(List.range (zaH wd cs (k:Int)).length).map fun i=>(zaH wd cs (k:Int)).getD i 0).getD k []).length<=1048576:=fun k hk=>by
  have hk':k<M:=by simpa using hk
  have:=hnf k hk'
  simp[hk']
  omega
 have hq:=zft wd ga la fa pa na gc lc fc pc nc cs ((List.range M).map fun (j:Nat)=>zaW wd cs (j:Int)) ((List.range M).map fun (k:Nat)=>(List.range (zaH wd cs (k:Int)).length).map fun i=>(zaH wd cs (k:Int)).getD i 0) [] [] w ⟨⟨zhk h.own,zhm h.li,zgE h.feet⟩,.inl rfl,.inl rfl⟩ (a1:=true) (a2:=true) (b:=true)
  (fun w1 he=>(zfm wd ga pa gc pc cs.length [] w1 he (by omega) (by simp)).mono fun e w' q=>⟨by rw[q.1];rfl,q.2⟩)
  (fun w1 he=>(zfm wd ga na gc nc cs.length [] w1 he (by omega) (by simp)).mono fun e w' q=>⟨by rw[q.1];rfl,q.2⟩)
  (fun w1 hs=>(zfC wd ga la fa gc lc fc cs _ _ w1 hs.1 hs.2.1 hs.2.2 ⟨by omega,by simp;omega,by simp;omega,hx⟩ (by simp) (by simp) hM20 hx (fun a cap w h=>(zhY S hM hN a cap w h).mono fun e w' q=>zqQ q)).mono fun e w' q=>⟨by rw[q.1];simp,q.2⟩)
 simp only[List.length_map,List.length_range,List.length_nil,hN] at hq
 exact hq
theorem zev(p:Option Addr)(pc:Nat)(w:World) :
  Calls SqP.prog 22 #[.slice p 0 pc] w fun e w'=>e=.returned (.pointer (some ⟨w.heap.size,0,none⟩))/\w'.heap[w.heap.size]?=some (.cells #[.pointer none,.pointer none,.int .i64 0] 105)/\Below w.heap.size w w':=by
 obtain⟨w2,hw2⟩:∃ w2,w2=w.alloc (.cells #[.pointer none,.pointer none,.int .i64 0] 105):=⟨_,rfl⟩
 obtain⟨x1,hb⟩:=za5 (.cells #[.pointer none,.pointer none,.int .i64 0] 105) w
 rw[<- hw2] at x1 hb
 have HX:Hid (w2.heap[w.heap.size]?=some (.cells #[.pointer none,.pointer none,.int .i64 0] 105)/\Below w.heap.size w w2):=⟨x1,hb⟩
 clear x1 hb
 go_enter SqP.func22,Tryz.ntmps22
 go_upto_region 2 with fail
 rw[<- hw2]
 clear hw2
 go_wp2_with fail
 go_loop [10,5] (fun i _=>i=.int .i64 0) (fun _ _=>0)
 case atStart=>exact rfl
 case round =>
  obtain rfl:=hrel
  go_wp2_with fail
  go_ret
  exact⟨rfl,HX.out.1,HX.out.2⟩
theorem zhw(c:Nat)(w:World)(h:w.heap[c]?=some (.cells #[.pointer none,.pointer none,.int .i64 0] 105)) :
  Calls SqP.prog 51 #[.pointer (some ⟨c,0,none⟩)] w fun e w'=>e=.returned (.tuple #[.agg #[.int .i64 0,.int .i64 0,.int .i64 0],.bool false])/\Below w.heap.size w w':=by
 obtain⟨w2,hw2⟩:∃ w2,w2=w.alloc (.cells #[.int .i64 0,.int .i64 0,.int .i64 0] 71):=⟨_,rfl⟩
 obtain⟨x1,hb⟩:=za5 (.cells #[.int .i64 0,.int .i64 0,.int .i64 0] 71) w
 rw[<- hw2] at x1 hb
 have hc:=(hb.block _ (gei h).1).trans h
 obtain⟨c0,c1,c2⟩:=zoV hc
 obtain⟨q0,q1,q2⟩:=zoV x1
 have t0:=thaw x1 0
 have t1:=thaw x1 1
 have t2:=thaw x1 2
 have HB:Hid (Below w.heap.size w w2):=hb
 clear hc x1 h hb
 go_enter SqP.func51,Tryz.ntmps51
 go_upto_region 1 with fail
 rw[<- hw2]
 clear hw2
 go_wp2_with fail
 refine bodyPost_ret (v:=.tuple #[.agg #[.int .i64 0,.int .i64 0,.int .i64 0],.bool false]) (by simp[results,Tryz.results51,go_sem,q0,q1,q2]) rfl ⟨rfl,?_⟩
 exact((HB.out.setCell (p:=⟨w.heap.size,0,none⟩) (Nat.le_refl _) _).setCell (p:=⟨w.heap.size,1,none⟩) (Nat.le_refl _) _).setCell (p:=⟨w.heap.size,2,none⟩) (Nat.le_refl _) _
set_option maxRecDepth 100000 in
theorem zi6(wd:Int)(ga la fa:Option Addr)(N gc M lc fc c d:Nat)(w:World)(hc:w.heap[c]?=some (.cells #[.pointer none,.pointer none,.int .i64 0] 105))(hd:w.heap[d]?=some (.cells #[.pointer none,.pointer none,.int .i64 0] 105)) :
  Calls SqP.prog 23 #[.agg #[.int .i64 wd,.slice ga N gc,.slice la M lc,.slice fa M fc],.pointer (some ⟨c,0,none⟩),.pointer (some ⟨d,0,none⟩)] w fun e w'=>e=.returned (.tuple #[.agg #[.int .i64 0,.slice none 0 0,.slice none 0 0,.slice none 0 0],.bool false])/\Below w.heap.size w w':=by
 obtain⟨w2,hw2⟩:∃ w2,w2=(w.alloc (.cells #[.int .i64 wd,.slice ga N gc,.slice la M lc,.slice fa M fc] 30)).alloc (.cells #[.int .i64 0,.slice none 0 0,.slice none 0 0,.slice none 0 0] 30):=⟨_,rfl⟩
 obtain⟨x1,x2,hb⟩:=zcv (.cells #[.int .i64 wd,.slice ga N gc,.slice la M lc,.slice fa M fc] 30) (.cells #[.int .i64 0,.slice none 0 0,.slice none 0 0,.slice none 0 0] 30) w
 rw[<- hw2] at x1 x2 hb
 have hc2:=(hb.block _ (gei hc).1).trans hc
 have hd2:=(hb.block _ (gei hd).1).trans hd
 have HB:Hid (Below w.heap.size w w2):=hb
 have HR:Hid (w2.heap[w.heap.size+1]?=some (.cells #[.int .i64 0,.slice none 0 0,.slice none 0 0,.slice none 0 0] 30)):=x2
 have hT:=zhw c w2 hc2
 obtain⟨d0,d1,d2⟩:=zoV hd2
 clear x1 x2 hc hd hb hc2 hd2
 go_enter SqP.func23,Tryz.ntmps23
 go_upto_region 1 with fail
 rw[<- hw2]
 clear hw2
 go_wp2_with fail
 refine hT.mono ?_
 rintro e w3 ⟨rfl,hb3⟩
 have hb4:Below w3.heap.size w3 (w3.alloc (.cells #[.int .i64 0,.int .i64 0,.int .i64 0] 71)):=bel
 have hr:=(hb4.block _ (gei ((hb3.block _ (gei HR.out).1).trans HR.out)).1).trans ((hb3.block _ (gei HR.out).1).trans HR.out)
 have B4:Hid (Below w.heap.size w (w3.alloc (.cells #[.int .i64 0,.int .i64 0,.int .i64 0] 71))):=zak (zak HB.out HB.out.size hb3) (zak HB.out HB.out.size hb3).size hb4
 have R4:Hid ((w3.alloc (.cells #[.int .i64 0,.int .i64 0,.int .i64 0] 71)).heap[w.heap.size+1]?=some (.cells #[.int .i64 0,.slice none 0 0,.slice none 0 0,.slice none 0 0] 30)):=hr
 clear hr hb3 hb4 hT HB HR d0 d1 d2
 go_upto_region 4 with fail
 obtain⟨w4,hw4⟩:∃ w4,w4=w3.alloc (.cells #[.int .i64 0,.int .i64 0,.int .i64 0] 71):=⟨_,rfl⟩
 rw[<- hw4] at B4 R4 ⊢
 clear hw4
 obtain⟨q0,q1,q2,q3⟩:=zmS R4.out
 have t0:=thaw R4.out 0
 have t1:=thaw R4.out 1
 have t2:=thaw R4.out 2
 have t3:=thaw R4.out 3
 go_wp2_with fail
 refine bodyPost_ret (v:=.tuple #[.agg #[.int .i64 0,.slice none 0 0,.slice none 0 0,.slice none 0 0],.bool false]) (by simp[results,Tryz.results23,go_sem,q0,q1,q2,q3]) rfl ⟨rfl,?_⟩
 exact(((B4.out.setCell (p:=⟨w.heap.size+1,0,none⟩) (by show w.heap.size<=w.heap.size+1;omega) _).setCell (p:=⟨w.heap.size+1,1,none⟩) (by show w.heap.size<=w.heap.size+1;omega) _).setCell (p:=⟨w.heap.size+1,2,none⟩) (by show w.heap.size<=w.heap.size+1;omega) _).setCell (p:=⟨w.heap.size+1,3,none⟩) (by show w.heap.size<=w.heap.size+1;omega) _
