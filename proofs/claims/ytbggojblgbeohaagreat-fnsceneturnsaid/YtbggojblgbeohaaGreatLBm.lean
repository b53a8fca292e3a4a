/- Part. -/
import Derived.Laws.StructEq
import Derived.Test.YtbggojblgbeohaaGreatLBb
import Derived.Test.YtbggojblgbeohaaGreatLBl
set_option maxHeartbeats 8000000
set_option linter.unusedVariables false
namespace Go.Proofs.YtbggojblgbeohaaGreat
variable{cs:List (Int × Int)}{l:Nat->Int}{n:Nat->Nat}{f:Nat->Nat->Int}{ad ad2:Nat->Option Addr}{w:World}
namespace Sp
open Go.RowKit
attribute [local go_sem ↓] Go.wp_at_zero Go.wp_at_succ
theorem stU:SqP.prog.underlying 50=some (.struct (SqP.prog.fieldsOf 50)):=by kernel_rfl
theorem stH:SqP.prog.stoodInHeld 50=false:=by kernel_rfl
theorem stG:SqP.prog.eqGuardType SqP.prog.depth 50=false:=by kernel_rfl
theorem zon(k l k2 l2:Int)(w:World):Sem.run SqP.prog (binOp .neq 50 (.agg #[.int .i64 k,.int .i64 l]) (.agg #[.int .i64 k2,.int .i64 l2])) w=.ok (.bool (!(decide (k=k2/\l=l2)))) w:=by
 rw[run_neq_struct,run_equalIn_agg _ _ _ _ _ stU stH]
 simp[Op.eqFields,go_sem]
 by_cases h1:k=k2 <;> by_cases h2:l=l2 <;> simp[h1,h2]
def eqL(wd wd2:Int)(cs ds:List (Int × Int)):Bool:=decide (wd=wd2/\cs=ds)
theorem zmv(wd wd2:Int)(a a2:Option Addr)(cap cap2:Nat)(cs ds:List (Int × Int))(w:World)(h:zai w a cs)(h2:zai w a2 ds)(hm:cs.length<=1048576)(hm2:ds.length<=1048576) :
  Calls SqP.prog 23 #[.agg #[.int .i64 wd,.slice a cs.length cap],.agg #[.int .i64 wd2,.slice a2 ds.length cap2]] w fun e w'=>e=.returned (.bool (eqL wd wd2 cs ds))/\Below w.heap.size w w':=by
 by_cases h1:wd=wd2
 ·subst h1
  by_cases hl:cs.length=ds.length
  ·have hbX:Below w.heap.size w ((w.alloc (.cells #[.int .i64 wd,.slice a cs.length cap] 25)).alloc (.cells #[.int .i64 wd,.slice a2 ds.length cap2] 25)):=bel
   have hln:((cs.length:Int) != (ds.length:Int))=false:=by simp[hl]
   have HL:Hid (cs.length=ds.length):=hl
   clear hl
   go_enter SqP.func23,Tryz.ntmps23
   go_wp2
   go_loopw [5] (fun i wr=>∃ k:Nat,k<=cs.length/\i=.int .i64 k/\cs.take k=ds.take k/\Below w.heap.size w wr/\wr.cell? ⟨w.heap.size,1,none⟩=some (.slice a cs.length cap)/\wr.cell? ⟨w.heap.size+1,1,none⟩=some (.slice a2 ds.length cap2)) (fun i _=>cs.length - (intOf i).toNat)
   case atStart=>exact⟨0,Nat.zero_le _,rfl,by simp,hbX,by simp[go_sem],by simp[go_sem]⟩
   case round =>
    clear hbX
    obtain⟨k,hk,rfl,htk,hb,b1,b2⟩:=hrel
    have HT:Hid (cs.take k=ds.take k):=htk
    clear htk
    by_cases hlt:k<cs.length
    ·have hlt2:k<ds.length:=by have:=HL.out;omega
     rcases h with h|⟨b,off,rfl,hbl,hcell⟩
     ·subst h;simp at hlt
     rcases h2 with h2|⟨b2',off2,rfl,hbl2,hcell2⟩
     ·subst h2;simp at hlt2
     obtain⟨hx,hy⟩:=hcell k hlt
     rw[<- hb.cell (p:=⟨b,_,none⟩) hbl] at hx hy
     obtain⟨hx2,hy2⟩:=hcell2 k hlt2
     rw[<- hb.cell (p:=⟨b2',_,none⟩) hbl2] at hx2 hy2
     clear hcell hcell2
     obtain⟨kx,lx,hkl⟩:∃ kx lx:Int,cs.getD k (0,0)=(kx,lx):=⟨_,_,rfl⟩
     obtain⟨ky,ly,hkl2⟩:∃ ky ly:Int,ds.getD k (0,0)=(ky,ly):=⟨_,_,rfl⟩
     rw[hkl] at hx hy
     rw[hkl2] at hx2 hy2
     have hg:=stG
     have e1:cs[k]=(kx,lx):=by rw[<- hkl];simp[hlt]
     have e2:ds[k]=(ky,ly):=by rw[<- hkl2];simp[hlt2]
     have hz:=hb.size
     by_cases hq:kx=ky/\lx=ly
     ·obtain⟨rfl,rfl⟩:=hq
      have hqq:∀ w:World,Sem.run SqP.prog (binOp .neq 50 (.agg #[.int .i64 kx,.int .i64 lx]) (.agg #[.int .i64 kx,.int .i64 lx])) w=.ok (.bool false) w:=fun w=>by rw[zon];simp
      have HN:Hid (cs.take (k+1)=ds.take (k+1)):=by
       show _=_
       rw[List.take_succ_eq_append_getElem hlt,List.take_succ_eq_append_getElem hlt2,HT.out,e1,e2]
      clear hkl hkl2 e1 e2
      go_wp2
      go_quiet (fail)
      go_wp2
      go_roundw
      case rel=>exact⟨k+1,by omega,by go_num,HN.out,⟨hb.os,hb.tape,hb.output,hb.size,hb.block⟩,b1,b2⟩
      case measure=>simp[intOf];omega
     ·have hqq:∀ w:World,Sem.run SqP.prog (binOp .neq 50 (.agg #[.int .i64 kx,.int .i64 lx]) (.agg #[.int .i64 ky,.int .i64 ly])) w=.ok (.bool true) w:=fun w=>by rw[zon];simp[hq]
      have HN:Hid (eqL wd wd cs ds=false):=by
       show _=_
       simp only[eqL,true_and,decide_eq_false_iff_not]
       intro hx'
       subst hx'
       rw[e1] at e2
       simp only[Prod.mk.injEq] at e2
       exact hq e2
      clear hkl hkl2 e1 e2
      go_wp2
      go_quiet (fail)
      go_wp2
      go_ret
      exact⟨by rw[HN.out];rfl,⟨hb.os,hb.tape,hb.output,hb.size,hb.block⟩⟩
    ·have HN:Hid (eqL wd wd cs ds=true):=by
      show _=_
      have:=HT.out
      rw[List.take_of_length_le (by omega),List.take_of_length_le (by have:=HL.out;omega)] at this
      simp[eqL,this]
     go_wp2
     go_ret
     exact⟨by rw[HN.out];rfl,hb⟩
  ·have hln:((cs.length:Int) != (ds.length:Int))=true:=by simp;omega
   go_enter SqP.func23,Tryz.ntmps23
   go_wp2
   go_ret
   exact⟨by rw[show eqL wd wd cs ds=false from by simp[eqL];intro hx;exact hl (by rw[hx])];rfl,bel⟩
 ·go_enter SqP.func23,Tryz.ntmps23
  go_wp2
  go_ret
  exact⟨by rw[show eqL wd wd2 cs ds=false from by simp[eqL,h1]];rfl,bel⟩
theorem zlx(a a2:Option Addr)(c c2 n:Nat)(f:Nat->Int)(w:World)(h:RI w a (n * 1) f)(h2:RI w a2 (n * 1) f)(hm:n<=1048576) :
  Calls SqP.prog 24 #[.slice a n c,.slice a2 n c2] w fun e w'=>e=.returned (.bool true)/\Below w.heap.size w w':=by
 have bl:((n:Int) != (n:Int))=false:=by simp
 go_enter SqP.func24,Tryz.ntmps24
 go_wp2_with fail
 go_loopw [5] (fun ii wr=>∃ i:Nat,i<=n/\ii=.int .i64 i/\Below w.heap.size w wr) (fun ii _=>n - (intOf ii).toNat)
 case atStart=>exact⟨0,Nat.zero_le _,rfl,Below.refl _ _⟩
 case round =>
  rename World=>wo
  obtain⟨i,hi,rfl,hb⟩:=hrel
  by_cases hlt:i<n
  ·obtain⟨g,ea,_,hc⟩:=(h.below hb).at (by omega)
   obtain⟨g2,ea2,_,hc2⟩:=(h2.below hb).at (by omega)
   subst ea
   subst ea2
   have x0:=(hc i (by omega)).1
   have y0:=(hc2 i (by omega)).1
   have hil:(i:Int)<(n:Int):=by omega
   have hne:(f i != f i)=false:=by simp
   clear h h2 hc hc2
   go_wp2_with fail
   go_quiet (fail)
   have hbq:Below w.heap.size w (wo.drewN nq):=⟨hb.os,hb.tape,hb.output,hb.size,hb.block⟩
   go_wp2_with fail
   go_roundw
   case rel=>exact⟨i+1,by omega,by go_num,hbq⟩
   case measure=>simp[intOf];omega
  ·go_wp2_with fail
   go_ret
   exact⟨rfl,hb⟩
theorem zqp(a a2:Option Addr)(c c2 M lo hi lo2 hi2:Nat)(ad ad2:Nat->Option Addr)(n cp cp2:Nat->Nat)(f:Nat->Nat->Int)(w:World)(h:zgZ w lo hi a M ad n cp f)(h2:zgZ w lo2 hi2 a2 M ad2 n cp2 f)(hm:M<=1048576)(hn:∀ k,k<M->n k<=1000) :
  Calls SqP.prog 25 #[.slice a M c,.slice a2 M c2] w fun e w'=>e=.returned (.bool true)/\Below w.heap.size w w':=by
 have bl:((M:Int) != (M:Int))=false:=by simp
 go_enter SqP.func25,Tryz.ntmps25
 go_wp2_with fail
 go_loopw [5] (fun ii wr=>∃ i:Nat,i<=M/\ii=.int .i64 i/\Below w.heap.size w wr) (fun ii _=>M - (intOf ii).toNat)
 case atStart=>exact⟨0,Nat.zero_le _,rfl,Below.refl _ _⟩
 case round =>
  rename World=>wo
  obtain⟨i,hi,rfl,hb⟩:=hrel
  have hzo:=hb.size
  by_cases hlt:i<M
  ·rcases h.below hb with q|⟨b,rfl,hy⟩
   ·omega
   rcases h2.below hb with q|⟨b2,rfl,hy2⟩
   ·omega
   have x0:=hy.cell i hlt
   have r0:=hy.row i hlt
   have y0:=hy2.cell i hlt
   have r2:=hy2.row i hlt
   have hn0:=hn i hlt
   obtain⟨g,eg⟩:∃ g,ad i=g:=⟨_,rfl⟩
   obtain⟨g2,eg2⟩:∃ g,ad2 i=g:=⟨_,rfl⟩
   obtain⟨m,em⟩:∃ g,n i=g:=⟨_,rfl⟩
   obtain⟨p,ep⟩:∃ g,cp i=g:=⟨_,rfl⟩
   obtain⟨p2,ep2⟩:∃ g,cp2 i=g:=⟨_,rfl⟩
   rw[eg,em] at r0
   rw[eg,em,ep] at x0
   rw[eg2,em] at r2
   rw[eg2,em,ep2] at y0
   rw[em] at hn0
   have hltI:(i:Int)<(M:Int):=by omega
   have wk:IntKind.i64.wrap ((i:Int)+1)=(i:Int)+1:=IntWalk.i64_in _ (by omega)
   clear h h2 hy hy2 eg eg2 em ep ep2 hn
   go_wp2
   go_region_held3 (fun w'=>w'.cell? ⟨b,i,none⟩=some (.slice g m p)/\w'.cell? ⟨b2,i,none⟩=some (.slice g2 m p2))
    (first
     | exact⟨zab hb7 x0,zab hb7 y0⟩
     | exact⟨x0,y0⟩
     | go_keep)
    (first
     | (go_at_call 24;refine(zlx g g2 p p2 m (f i) _ (r0.below (by first|exact Below.refl _ _|exact(Below.refl _ _).drew)) (r2.below (by first|exact Below.refl _ _|exact(Below.refl _ _).drew)) (by omega)).mono ?_;rintro e w7 ⟨rfl,hb7'⟩;have hb7:Below wo.heap.size wo w7:=(by first|exact hb7'|exact zbw hb7'))
     | fail)
   all_goals
    have hb8:=zak hb hzo hb7
    go_wp2_with fail
    go_roundw
    case rel=>exact⟨i+1,by omega,by go_num,by first|exact hb8|exact hb8.drew⟩
    case measure=>simp[intOf];omega
  ·have hnl:¬ (i:Int)<(M:Int):=by omega
   go_wp2_with fail
   go_ret
   exact⟨rfl,hb⟩
theorem ztL{b:Nat}{v0 v1 v2 v3:Value}{t:TypeId}(h:w.heap[b]?=some (.cells #[v0,v1,v2,v3] t)):w.cell? ⟨b,0,none⟩=some v0/\w.cell? ⟨b,1,none⟩=some v1/\w.cell? ⟨b,2,none⟩=some v2/\w.cell? ⟨b,3,none⟩=some v3 :=
 ⟨(cell_of_row _ _ 0 _ _ _ h).trans rfl,(cell_of_row _ _ 1 _ _ _ h).trans rfl,(cell_of_row _ _ 2 _ _ _ h).trans rfl,(cell_of_row _ _ 3 _ _ _ h).trans rfl⟩
theorem ztG{wd:Int}{N:Nat}{M:Nat}{ga la fa ga2 la2 fa2:Option Addr}{gc lc fc gc2 lc2 fc2 B hi B2 hi2:Nat}{cp cp2:Nat->Nat}(h:Sn w B hi N cs M l n f ga la fa gc ad cp)(h2:Sn w B2 hi2 N cs M l n f ga2 la2 fa2 gc2 ad2 cp2)(hN:cs.length=N)(hm:N<=25)(hM:M<=20)(hn:∀ k,k<M->n k<=1000) :
  Calls SqP.prog 7 #[.agg #[.int .i64 wd,.slice ga N gc,.slice la M lc,.slice fa M fc],.agg #[.int .i64 wd,.slice ga2 N gc2,.slice la2 M lc2,.slice fa2 M fc2]] w fun e w'=>e=.returned (.bool true)/\Below w.heap.size w w':=by
 obtain⟨w2,hw2⟩:∃ w2,w2=(w.alloc (.cells #[.int .i64 wd,.slice ga N gc,.slice la M lc,.slice fa M fc] 30)).alloc (.cells #[.int .i64 wd,.slice ga2 N gc2,.slice la2 M lc2,.slice fa2 M fc2] 30):=⟨_,rfl⟩
 have H2:Hid (zdw w w2 [(w.heap.size+1,.cells #[.int .i64 wd,.slice ga2 N gc2,.slice la2 M lc2,.slice fa2 M fc2] 30),(w.heap.size,.cells #[.int .i64 wd,.slice ga N gc,.slice la M lc,.slice fa M fc] 30)]):=by rw[hw2];exact zr7 _ _ w
 have HA:Hid (Sn w2 B hi N cs M l n f ga la fa gc ad cp):=h.below H2.out.below
 have HB:Hid (Sn w2 B2 hi2 N cs M l n f ga2 la2 fa2 gc2 ad2 cp2):=h2.below H2.out.below
 have hG:=zmv wd wd ga ga2 gc gc2 cs cs w2 (zlI HA.out.own) (zlI HB.out.own) (by omega) (by omega)
 have eG:eqL wd wd cs cs=true:=by simp[eqL]
 rw[eG,hN] at hG
 clear eG h h2 hN
 go_enter SqP.func7,Tryz.ntmps7
 go_upto_region 1 with fail
 rw[<- hw2]
 clear hw2
 obtain⟨c0,c1,c2,c3⟩:=ztL (H2.out.lies (w.heap.size,.cells #[.int .i64 wd,.slice ga N gc,.slice la M lc,.slice fa M fc] 30) (by simp)).1
 obtain⟨d0,d1,d2,d3⟩:=ztL (H2.out.lies (w.heap.size+1,.cells #[.int .i64 wd,.slice ga2 N gc2,.slice la2 M lc2,.slice fa2 M fc2] 30) (by simp)).1
 go_wp2_with fail
 refine hG.mono ?_
 rintro e w3 ⟨rfl,hb⟩
 have H3:Hid (Below w.heap.size w w3):=zak H2.out.below H2.out.below.size hb
 have HA3:Hid (Sn w3 B hi N cs M l n f ga la fa gc ad cp):=HA.out.below hb
 have HB3:Hid (Sn w3 B2 hi2 N cs M l n f ga2 la2 fa2 gc2 ad2 cp2):=HB.out.below hb
 replace c2:=zab hb c2;replace c3:=zab hb c3;replace d2:=zab hb d2;replace d3:=zab hb d3
 clear hb hG c0 c1 d0 d1 HA HB H2
 go_wp2_with fail
 refine(zlx la la2 lc lc2 M l w3 HA3.out.li HB3.out.li (by omega)).mono ?_
 rintro e w4 ⟨rfl,hb⟩
 have H4:Hid (Below w.heap.size w w4):=zak H3.out H3.out.size hb
 have HA4:Hid (Sn w4 B hi N cs M l n f ga la fa gc ad cp):=HA3.out.below hb
 have HB4:Hid (Sn w4 B2 hi2 N cs M l n f ga2 la2 fa2 gc2 ad2 cp2):=HB3.out.below hb
 replace c3:=zab hb c3;replace d3:=zab hb d3
 clear hb c2 d2 HA3 HB3 H3
 go_wp2_with fail
 refine(zqp fa fa2 fc fc2 M B hi B2 hi2 ad ad2 n cp cp2 f w4 HA4.out.feet HB4.out.feet (by omega) hn).mono ?_
 rintro e w5 ⟨rfl,hb⟩
 go_wp2_with fail
 go_ret
 exact⟨rfl,zak H4.out H4.out.size hb⟩
set_option maxRecDepth 100000 in
theorem ziu(a:Option Addr)(n cap:Nat)(f:Nat->Int)(w:World)(h:BytesAt w a n f)(hm:n<=cap/\cap<=9223372036854775807)(hbig:1048576<n) :
  Calls SqP.prog 3 #[.slice a n cap] w fun e w'=>e=.returned (.bool true)/\Below w.heap.size w w':=by
 have hb:(1048576:Int)<(n:Int):=by omega
 go_enter SqP.func3,Tryz.ntmps3
 go_wp2
 go_ret
 exact⟨rfl,Below.refl _ _⟩
set_option maxRecDepth 100000 in
theorem zgt(a:Option Addr)(n cap:Nat)(f:Nat->Int)(w:World)(h:BytesAt w a n f)(hm:n<=cap/\cap<=9223372036854775807)(hsm:n<=1048576) :
  Calls SqP.prog 3 #[.slice a n cap] w fun e w'=>e=.returned (.bool true)/\Below w.heap.size w w':=by
 have hb:(n:Int)<=1048576:=by omega
 go_enter SqP.func3,Tryz.ntmps3
 go_wp2_with fail
 refine(zfe a n cap f w h hsm hm.1 hm.2).mono ?_
 rintro e w1 ⟨wd,a1,c1,cs,rfl,hC1,hl1,hb_w1⟩
 have hz_w1:=hb_w1.size
 have hbS1:Below w1.heap.size w1 (w1.alloc (.cells #[.int .i64 wd,.slice a1 cs.length c1] 25)):=bel
 replace hC1:=hC1.below hbS1
 have g0:(w1.alloc (.cells #[.int .i64 wd,.slice a1 cs.length c1] 25)).cell? ⟨w1.heap.size,0,none⟩=some (.int .i64 wd):=by simp[go_sem]
 have g1:(w1.alloc (.cells #[.int .i64 wd,.slice a1 cs.length c1] 25)).cell? ⟨w1.heap.size,1,none⟩=some (.slice a1 cs.length c1):=by simp[go_sem]
 have hBs1:=zak hb_w1 (by omega) hbS1
 have z01:w.heap.size<=w1.heap.size:=hz_w1
 clear hb_w1 hbS1 h
 rcases hk:okG wd cs with _|_
 ·go_wp2_with fail
  refine(zqN hk (by omega) a1 c1 _ hC1).mono ?_
  rintro e w2 ⟨a2,b2,e2,c2,d2,f2,r2,s2,rfl,hK2,hb_w2⟩
  have hz_w2:=hb_w2.size
  simp at hz_w2
  replace g0:=zab hb_w2 g0;replace g1:=zab hb_w2 g1
  replace hC1:=hC1.below hb_w2
  have hB_w2:=zak hBs1 (by first|omega|(simp;omega)) hb_w2
  clear hBs1 hb_w2
  have hbX:Below w2.heap.size w2 (w2.alloc (.cells #[.int .i64 0,.slice a2 0 c2,.slice b2 0 d2,.slice e2 0 f2] 30)):=bel
  replace hK2:=hK2.below hbX
  replace hC1:=hC1.below hbX
  obtain⟨q0,q1,q2,q3⟩:=zsB w2 (.int .i64 0) (.slice a2 0 c2) (.slice b2 0 d2) (.slice e2 0 f2) 30
  have hBX:=zak hB_w2 (by omega) hbX
  have z2:w1.heap.size<w2.heap.size:=by omega
  have G0:=zab hbX g0
  have G1:=zab hbX g1
  go_wp2_with fail
  refine(zqc hk (by omega) a1 c1 _ hC1).mono ?_
  rintro e w3 ⟨a3,b3,e3,c3,d3,f3,r3,s3,rfl,hK3,hb_w3⟩
  have hz_w3:=hb_w3.size
  simp at hz_w3
  replace g0:=zab hb_w3 G0
  replace g1:=zab hb_w3 G1
  replace q0:=zab hb_w3 q0;replace q1:=zab hb_w3 q1;replace q2:=zab hb_w3 q2;replace q3:=zab hb_w3 q3
  replace hC1:=hC1.below hb_w3
  replace hK2:=hK2.below hb_w3
  have hB_w3:=zak hBX (by simp;omega) hb_w3
  clear hb_w3 hbX hBX G0 G1 hB_w2
  have hbY:Below w3.heap.size w3 (w3.alloc (.cells #[.int .i64 0,.slice a3 0 c3,.slice b3 0 d3,.slice e3 0 f3] 30)):=bel
  replace hK2:=hK2.below hbY
  replace hK3:=hK3.below hbY
  replace hC1:=hC1.below hbY
  obtain⟨j0,j1,j2,j3⟩:=zsB w3 (.int .i64 0) (.slice a3 0 c3) (.slice b3 0 d3) (.slice e3 0 f3) 30
  have hBY:=zak hB_w3 (by omega) hbY
  have z3:w1.heap.size<w3.heap.size:=by omega
  have z3':w2.heap.size<w3.heap.size:=by omega
  have G0:=zab hbY g0
  have G1:=zab hbY g1
  have Q0:=zab hbY q0
  have Q1:=zab hbY q1
  have Q2:=zab hbY q2
  have Q3:=zab hbY q3
  go_wp2_with fail
  refine(ztG hK3 hK2 rfl (by omega) (by omega) (fun k h=>by omega)).mono ?_
  rintro e w4 ⟨rfl,hb_w4⟩
  have hz_w4:=hb_w4.size
  simp at hz_w4
  replace g0:=zab hb_w4 G0
  replace g1:=zab hb_w4 G1
  replace q0:=zab hb_w4 Q0
  replace q1:=zab hb_w4 Q1
  replace q2:=zab hb_w4 Q2
  replace q3:=zab hb_w4 Q3
  replace j0:=zab hb_w4 j0;replace j1:=zab hb_w4 j1;replace j2:=zab hb_w4 j2;replace j3:=zab hb_w4 j3
  replace hC1:=hC1.below hb_w4
  replace hK2:=hK2.below hb_w4
  replace hK3:=hK3.below hb_w4
  have hB_w4:=zak hBY (by simp;omega) hb_w4
  clear hb_w4 hbY hBY G0 G1 Q0 Q1 Q2 Q3 hB_w3
  go_wp2_with fail
  refine(ztG hK3 hK2 rfl (by omega) (by omega) (fun k h=>by omega)).mono ?_
  rintro e w5 ⟨rfl,hb_w5⟩
  have hB_w5:=zak hB_w4 (by omega) hb_w5
  go_wp2_with fail
  go_ret
  exact⟨rfl,hB_w5⟩
 ·obtain⟨W,H,S⟩:=ze6 hk
  obtain⟨⟨hn25,hn0⟩,hM20⟩:=zo0 S
  obtain⟨et,St⟩:=zo2 S
  obtain⟨ef,Sf⟩:=zo1 S
  obtain⟨M,hM⟩:∃ M,2 * (W+H)=M:=⟨_,rfl⟩
  obtain⟨N,hN⟩:∃ N,cs.length=N:=⟨_,rfl⟩
  rw[hM] at hM20
  rw[hN] at hn25 hn0
  obtain⟨tc,htc⟩:∃ tc,perm (zaO W H) other cs=tc:=⟨_,rfl⟩
  obtain⟨fc0,hfc0⟩:∃ tc,perm (zaN W) other cs=tc:=⟨_,rfl⟩
  have HT:Hid (∀ k:Nat,k<M->∃ A:Nat,zcC wd cs (k:Int)=(A:Int)/\A<M/\zaJ (H:Int) tc (A:Int)=zaJ wd cs (k:Int)/\(zaM (H:Int) tc (A:Int)).length=(zaM wd cs (k:Int)).length):=by rw[<- htc,<- hM];exact fun k hk=>zpt S St hk
  have HF:Hid (∀ k:Nat,k<M->∃ A:Nat,zcz wd cs (k:Int)=(A:Int)/\A<M/\zaJ (W:Int) fc0 (A:Int)=zaJ wd cs (k:Int)/\(zaM (W:Int) fc0 (A:Int)).length=(zaM wd cs (k:Int)).length):=by rw[<- hfc0,<- hM];exact fun k hk=>znV S Sf hk
  have htl:tc.length=N:=by rw[<- htc,zcm];exact hN
  have hfl:fc0.length=N:=by rw[<- hfc0,zcm];exact hN
  rw[htc] at et St
  rw[hfc0] at ef Sf
  have CS:=fun (a:Option Addr) (cap:Nat) (w:World) (h:zai w a cs)=>zo4 S hM hN a cap w h
  have CI:=fun (a:Option Addr) (cap:Nat) (w:World) (h:zai w a cs)=>zgf S hM hN a cap w h
  have CT:=fun (a:Option Addr) (cap:Nat) (w:World) (h:zai w a tc)=>zgf (M:=M) St (by omega) htl a cap w h
  have CF:=fun (a:Option Addr) (cap:Nat) (w:World) (h:zai w a fc0)=>zgf (M:=M) Sf hM hfl a cap w h
  have TG:=fun (a:Option Addr) (cap:Nat) (w:World) (h:zai w a cs)=>ztk et a cap w h (by omega)
  have FG:=fun (a:Option Addr) (cap:Nat) (w:World) (h:zai w a cs)=>zsO ef a cap w h (by omega)
  have TK:=fun (k m:Int) (e:zcC wd cs k=m) (a:Option Addr) (cap:Nat) (w:World) (h:zai w a cs)=>ztl e a cap w h (by omega)
  have FK:=fun (k m:Int) (e:zcz wd cs k=m) (a:Option Addr) (cap:Nat) (w:World) (h:zai w a cs)=>zsP e a cap w h (by omega)
  have hnf:∀ k:Nat,k<M->(zaM wd cs (k:Int)).length<=1000:=fun k _=>Nat.le_trans (zkl _ _) (by omega)
  rw[hN] at CS CI TG FG TK FK g0 g1
  rw[htl] at CT TG
  rw[hfl] at CF FG
  have HN:Hid (cs.length=N):=hN
  have HC:Hid (∀(a:Option Addr) (cap:Nat) (w:World),zai w a cs->_):=CS
  have HI:Hid (∀(a:Option Addr) (cap:Nat) (w:World),zai w a cs->_):=CI
  have HCT:Hid (∀(a:Option Addr) (cap:Nat) (w:World),zai w a tc->_):=CT
  have HCF:Hid (∀(a:Option Addr) (cap:Nat) (w:World),zai w a fc0->_):=CF
  have HTG:Hid (∀(a:Option Addr) (cap:Nat) (w:World),zai w a cs->_):=TG
  have HFG:Hid (∀(a:Option Addr) (cap:Nat) (w:World),zai w a cs->_):=FG
  have HTK:Hid (∀(k m:Int) (_:zcC wd cs k=m) (a:Option Addr) (cap:Nat) (w:World),zai w a cs->_):=TK
  have HFK:Hid (∀(k m:Int) (_:zcz wd cs k=m) (a:Option Addr) (cap:Nat) (w:World),zai w a cs->_):=FK
  rw[hN] at hBs1 hC1 ⊢
  clear hk et ef S St Sf hM htc hfc0 htl hfl CS CI CT CF TG FG TK FK hN hl1
  go_wp2_with fail
  refine(HC.out a1 c1 _ hC1).mono ?_
  rintro e w2 ⟨a2,b2,e2,c2,d2,f2,r2,s2,rfl,hK2,hb_w2⟩
  have hz_w2:=hb_w2.size
  simp at hz_w2
  replace g0:=zab hb_w2 g0;replace g1:=zab hb_w2 g1
  replace hC1:=hC1.below hb_w2
  have hB_w2:=zak hBs1 (by first|omega|(simp;omega)) hb_w2
  clear hBs1 hb_w2
  have hbX:Below w2.heap.size w2 (w2.alloc (.cells #[.int .i64 wd,.slice a2 N c2,.slice b2 M d2,.slice e2 M f2] 30)):=bel
  replace hK2:=hK2.below hbX
  replace hC1:=hC1.below hbX
  obtain⟨q0,q1,q2,q3⟩:=zsB w2 (.int .i64 wd) (.slice a2 N c2) (.slice b2 M d2) (.slice e2 M f2) 30
  have hBX:=zak hB_w2 (by omega) hbX
  have z2:w1.heap.size<w2.heap.size:=by omega
  have G0:=zab hbX g0
  have G1:=zab hbX g1
  go_wp2_with fail
  refine(HI.out a1 c1 _ hC1).mono ?_
  rintro e w3 ⟨a3,b3,e3,c3,d3,f3,r3,s3,rfl,hK3,hb_w3⟩
  have hz_w3:=hb_w3.size
  simp at hz_w3
  replace g0:=zab hb_w3 G0
  replace g1:=zab hb_w3 G1
  replace q0:=zab hb_w3 q0;replace q1:=zab hb_w3 q1;replace q2:=zab hb_w3 q2;replace q3:=zab hb_w3 q3
  replace hC1:=hC1.below hb_w3
  replace hK2:=hK2.below hb_w3
  have hB_w3:=zak hBX (by simp;omega) hb_w3
  clear hb_w3 hbX hBX G0 G1 hB_w2
  have hbY:Below w3.heap.size w3 (w3.alloc (.cells #[.int .i64 wd,.slice a3 N c3,.slice b3 M d3,.slice e3 M f3] 30)):=bel
  replace hK2:=hK2.below hbY
  replace hK3:=hK3.below hbY
  replace hC1:=hC1.below hbY
  obtain⟨j0,j1,j2,j3⟩:=zsB w3 (.int .i64 wd) (.slice a3 N c3) (.slice b3 M d3) (.slice e3 M f3) 30
  have hBY:=zak hB_w3 (by omega) hbY
  have z3:w1.heap.size<w3.heap.size:=by omega
  have z3':w2.heap.size<w3.heap.size:=by omega
  have G0:=zab hbY g0
  have G1:=zab hbY g1
  have Q0:=zab hbY q0
  have Q1:=zab hbY q1
  have Q2:=zab hbY q2
  have Q3:=zab hbY q3
  go_wp2_with fail
  refine(ztG hK3 hK2 HN.out hn25 hM20 hnf).mono ?_
  rintro e w4 ⟨rfl,hb_w4⟩
  have hz_w4:=hb_w4.size
  simp at hz_w4
  replace g0:=zab hb_w4 G0
  replace g1:=zab hb_w4 G1
  replace q0:=zab hb_w4 Q0
  replace q1:=zab hb_w4 Q1
  replace q2:=zab hb_w4 Q2
  replace q3:=zab hb_w4 Q3
  replace j0:=zab hb_w4 j0;replace j1:=zab hb_w4 j1;replace j2:=zab hb_w4 j2;replace j3:=zab hb_w4 j3
  replace hC1:=hC1.below hb_w4
  replace hK2:=hK2.below hb_w4
  replace hK3:=hK3.below hb_w4
  have hB_w4:=zak hBY (by simp;omega) hb_w4
  clear hb_w4 hbY hBY G0 G1 Q0 Q1 Q2 Q3 hB_w3
  clear hK2 q0 q1 q2 q3
  go_wp2_with fail
  refine(HTG.out a1 c1 _ hC1).mono ?_
  rintro e w5 ⟨a5,c5,rfl,hC5,hb_w5⟩
  have hz_w5:=hb_w5.size
  replace g0:=zab hb_w5 g0;replace g1:=zab hb_w5 g1;replace j0:=zab hb_w5 j0;replace j1:=zab hb_w5 j1;replace j2:=zab hb_w5 j2;replace j3:=zab hb_w5 j3
  replace hC1:=hC1.below hb_w5
  replace hK3:=hK3.below hb_w5
  have hB_w5:=zak hB_w4 (by first|omega|(simp;omega)) hb_w5
  clear hB_w4 hb_w5
  go_wp2_with fail
  refine(HCT.out a5 c5 _ hC5).mono ?_
  rintro e w6 ⟨a6,b6,e6,c6,d6,f6,r6,s6,rfl,hK6,hb_w6⟩
  have hz_w6:=hb_w6.size
  replace g0:=zab hb_w6 g0;replace g1:=zab hb_w6 g1;replace j0:=zab hb_w6 j0;replace j1:=zab hb_w6 j1;replace j2:=zab hb_w6 j2;replace j3:=zab hb_w6 j3
  replace hC1:=hC1.below hb_w6
  replace hK3:=hK3.below hb_w6
  have hB_w6:=zak hB_w5 (by first|omega|(simp;omega)) hb_w6
  clear hB_w5 hb_w6
  clear hC5
  have z6:w1.heap.size<w6.heap.size:=by omega
  have z6':w3.heap.size<w6.heap.size:=by omega
  have hbX6:Below w6.heap.size w6 (w6.alloc (.cells #[.int .i64 (H:Int),.slice a6 N c6,.slice b6 M d6,.slice e6 M f6] 30)):=bel
  obtain⟨x0,x1,x2,x3⟩:=zsB w6 (.int .i64 (H:Int)) (.slice a6 N c6) (.slice b6 M d6) (.slice e6 M f6) 30
  replace hC1:=hC1.below hbX6
  replace hK3:=hK3.below hbX6
  replace hK6:=hK6.below hbX6
  have G0:=zab hbX6 g0
  have G1:=zab hbX6 g1
  have J0:=zab hbX6 j0
  have J1:=zab hbX6 j1
  have J2:=zab hbX6 j2
  have J3:=zab hbX6 j3
  have hBX6:=zak hB_w6 (by omega) hbX6
  go_wp2_with fail
  refine(HFG.out a1 c1 _ hC1).mono ?_
  rintro e w7 ⟨a7,c7,rfl,hC7,hb_w7⟩
  have hz_w7:=hb_w7.size
  simp at hz_w7
  replace g0:=zab hb_w7 G0
  replace g1:=zab hb_w7 G1
  replace j0:=zab hb_w7 J0
  replace j1:=zab hb_w7 J1
  replace j2:=zab hb_w7 J2
  replace j3:=zab hb_w7 J3
  replace x0:=zab hb_w7 x0;replace x1:=zab hb_w7 x1;replace x2:=zab hb_w7 x2;replace x3:=zab hb_w7 x3
  replace hC1:=hC1.below hb_w7
  replace hK3:=hK3.below hb_w7
  replace hK6:=hK6.below hb_w7
  have hB_w7:=zak hBX6 (by simp;omega) hb_w7
  clear hb_w7 hbX6 hBX6 G0 G1 J0 J1 J2 J3
  go_wp2_with fail
  refine(HCF.out a7 c7 _ hC7).mono ?_
  rintro e w8 ⟨a8,b8,e8,c8,d8,f8,r8,s8,rfl,hK8,hb_w8⟩
  have hz_w8:=hb_w8.size
  replace g0:=zab hb_w8 g0;replace g1:=zab hb_w8 g1;replace j0:=zab hb_w8 j0;replace j1:=zab hb_w8 j1;replace j2:=zab hb_w8 j2;replace j3:=zab hb_w8 j3;replace x0:=zab hb_w8 x0;replace x1:=zab hb_w8 x1;replace x2:=zab hb_w8 x2;replace x3:=zab hb_w8 x3
  replace hC1:=hC1.below hb_w8
  replace hK3:=hK3.below hb_w8
  replace hK6:=hK6.below hb_w8
  have hB_w8:=zak hB_w7 (by first|omega|(simp;omega)) hb_w8
  clear hB_w7 hb_w8
  clear hC7
  have z8:w1.heap.size<w8.heap.size:=by omega
  have z8':w3.heap.size<w8.heap.size:=by omega
  have z8'':w6.heap.size<w8.heap.size:=by omega
  have hbX8:Below w8.heap.size w8 (w8.alloc (.cells #[.int .i64 (W:Int),.slice a8 N c8,.slice b8 M d8,.slice e8 M f8] 30)):=bel
  obtain⟨y0,y1,y2,y3⟩:=zsB w8 (.int .i64 (W:Int)) (.slice a8 N c8) (.slice b8 M d8) (.slice e8 M f8) 30
  replace hC1:=hC1.below hbX8
  replace hK3:=hK3.below hbX8
  replace hK6:=hK6.below hbX8
  replace hK8:=hK8.below hbX8
  have G0:=zab hbX8 g0
  have G1:=zab hbX8 g1
  have J0:=zab hbX8 j0
  have J1:=zab hbX8 j1
  have J2:=zab hbX8 j2
  have J3:=zab hbX8 j3
  have X0:=zab hbX8 x0
  have X1:=zab hbX8 x1
  have X2:=zab hbX8 x2
  have X3:=zab hbX8 x3
  have hBX8:=zak hB_w8 (by omega) hbX8
  replace g0:=G0
  replace g1:=G1
  replace j0:=J0
  replace j1:=J1
  replace j2:=J2
  replace j3:=J3
  replace x0:=X0
  replace x1:=X1
  replace x2:=X2
  replace x3:=X3
  have nM:((M:Int) != (M:Int))=false:=by simp
  obtain⟨w9,e9⟩:∃ w9,w9=w8.alloc (.cells #[.int .i64 (W:Int),.slice a8 N c8,.slice b8 M d8,.slice e8 M f8] 30):=⟨_,rfl⟩
  rw[<- e9] at g0 g1 j0 j1 j2 j3 x0 x1 x2 x3 y0 y1 y2 y3 hC1 hK3 hK6 hK8 hBX8
  have hz9:w8.heap.size<w9.heap.size:=by rw[e9];simp
  clear hbX8 G0 G1 J0 J1 J2 J3 X0 X1 X2 X3
  go_upto_region 10 with fail
  rw[<- e9]
  clear e9
  go_wp2_with fail
  go_loopw [12,13,14] (fun kk _ _ wr=>∃ k:Nat,k<=M/\kk=.int .i64 k/\Below w9.heap.size w9 wr) (fun kk _ _ _=>M - (intOf kk).toNat)
  case atStart=>exact⟨0,Nat.zero_le _,rfl,Below.refl _ _⟩
  case round =>
   rename World=>wo
   obtain⟨k,hk,rfl,hbo⟩:=hrel
   have hzo:=hbo.size
   replace g0:=zab hbo g0;replace g1:=zab hbo g1;replace j0:=zab hbo j0;replace j1:=zab hbo j1;replace j2:=zab hbo j2;replace j3:=zab hbo j3;replace x0:=zab hbo x0;replace x1:=zab hbo x1;replace x2:=zab hbo x2;replace x3:=zab hbo x3;replace y0:=zab hbo y0;replace y1:=zab hbo y1;replace y2:=zab hbo y2;replace y3:=zab hbo y3
   have hCo:=hC1.below hbo
   by_cases hlt:k<M
   ·have bl:decide ((k:Int)<(M:Int))=true:=decide_eq_true (by omega)
    have wk:IntKind.i64.wrap ((k:Int)+1)=(k:Int)+1:=IntWalk.i64_in _ (by omega)
    obtain⟨A,eA,hA,vA,nA⟩:=HT.out k hlt
    obtain⟨F,eF,hF,vF,nF⟩:=HF.out k hlt
    have EA:Hid (zcC wd cs (k:Int)=(A:Int)):=eA
    have EFk:Hid (zcz wd cs (k:Int)=(F:Int)):=eF
    clear eA eF
    go_wp2_with fail
    refine(HTK.out _ _ EA.out a1 c1 _ hCo).mono ?_
    rintro e wp ⟨rfl,hb_p⟩
    have hz_p:=hb_p.size
    replace g0:=zab hb_p g0;replace g1:=zab hb_p g1;replace j0:=zab hb_p j0;replace j1:=zab hb_p j1;replace j2:=zab hb_p j2;replace j3:=zab hb_p j3;replace x0:=zab hb_p x0;replace x1:=zab hb_p x1;replace x2:=zab hb_p x2;replace x3:=zab hb_p x3;replace y0:=zab hb_p y0;replace y1:=zab hb_p y1;replace y2:=zab hb_p y2;replace y3:=zab hb_p y3
    have hCp:=hCo.below hb_p
    have hbp:=zak hbo hzo hb_p
    clear hb_p hCo
    go_wp2_with fail
    refine(HFK.out _ _ EFk.out a1 c1 _ hCp).mono ?_
    rintro e wq ⟨rfl,hb_q⟩
    have hz_q:=hb_q.size
    replace g0:=zab hb_q g0;replace g1:=zab hb_q g1;replace j0:=zab hb_q j0;replace j1:=zab hb_q j1;replace j2:=zab hb_q j2;replace j3:=zab hb_q j3;replace x0:=zab hb_q x0;replace x1:=zab hb_q x1;replace x2:=zab hb_q x2;replace x3:=zab hb_q x3;replace y0:=zab hb_q y0;replace y1:=zab hb_q y1;replace y2:=zab hb_q y2;replace y3:=zab hb_q y3
    have hbq:=zak hbp (by omega) hb_q
    clear hb_q hCp
    obtain⟨m3,rfl,_,y3l⟩:=((hK3.below hbq).li).at (by omega)
    obtain⟨m6,rfl,_,y6l⟩:=((hK6.below hbq).li).at (by omega)
    obtain⟨m8,rfl,_,y8l⟩:=((hK8.below hbq).li).at (by omega)
    have l3:=(y3l k (by omega)).1
    have l6:=(y6l A (by omega)).1
    have l8:=(y8l F (by omega)).1
    obtain⟨p3,rfl,R3⟩:=((hK3.below hbq).feet).resolve_left (by omega)
    obtain⟨p6,rfl,R6⟩:=((hK6.below hbq).feet).resolve_left (by omega)
    obtain⟨p8,rfl,R8⟩:=((hK8.below hbq).feet).resolve_left (by omega)
    have t3:=R3.cell k hlt
    have t6:=R6.cell A hA
    have t8:=R8.cell F hF
    clear y3l y6l y8l R3 R6 R8
    try dsimp only at l3 l6 l8 t3 t6 t8
    rw[vA] at l6
    rw[vF] at l8
    rw[nA] at t6
    rw[nF] at t8
    obtain⟨x,hx⟩:∃ x,zaJ wd cs (k:Int)=x:=⟨_,rfl⟩
    rw[hx] at l3 l6 l8
    obtain⟨v,hv⟩:∃ x,(zaM wd cs (k:Int)).length=x:=⟨_,rfl⟩
    rw[hv] at t3 t6 t8
    clear hx vA vF hv nA nF
    have bn:(x != x)=false:=by simp
    have bv:((v:Int) != (v:Int))=false:=by simp
    have d1:decide ((A:Int)<0)=false:=decide_eq_false (by omega)
    have d2:decide ((M:Int)<=(A:Int))=false:=decide_eq_false (by omega)
    have d3:decide ((F:Int)<0)=false:=decide_eq_false (by omega)
    have d4:decide ((M:Int)<=(F:Int))=false:=decide_eq_false (by omega)
    have hAI:(A:Int)<(M:Int):=by omega
    have hFI:(F:Int)<(M:Int):=by omega
    go_wp2_with fail
    go_quiet (fail)
    have hbz:Below w9.heap.size w9 (wq.drewN nq):=⟨hbq.os,hbq.tape,hbq.output,hbq.size,hbq.block⟩
    go_wp2_with fail
    go_roundw
    case rel=>exact⟨k+1,by omega,by go_num,hbz⟩
    case measure=>simp[intOf];omega
   ·have bl:decide ((k:Int)<(M:Int))=false:=decide_eq_false (by omega)
    go_wp2_with fail
    go_ret
    exact⟨rfl,zak hBX8 (by omega) hbo⟩
theorem zit(a:Option Addr)(n cap:Nat)(f:Nat->Int)(w:World)(h:BytesAt w a n f)(hm:n<=cap/\cap<=9223372036854775807) :
  Calls SqP.prog 3 #[.slice a n cap] w fun e w'=>e=.returned (.bool true)/\Below w.heap.size w w':=by
 by_cases hs:n<=1048576
 ·exact zgt a n cap f w h hm hs
 ·exact ziu a n cap f w h hm (by omega)
