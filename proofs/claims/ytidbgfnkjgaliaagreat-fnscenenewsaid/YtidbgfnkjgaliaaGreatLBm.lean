/- Part. -/
import Derived.Laws.StructEq
import Derived.Test.YtidbgfnkjgaliaaGreatLBe
import Derived.Test.YtidbgfnkjgaliaaGreatLBl
set_option maxHeartbeats 8000000
set_option linter.unusedVariables false
namespace Go.Proofs.YtidbgfnkjgaliaaGreat
variable{wd:Int}{cs:List (Int × Int)}{M N:Nat}{l:Nat->Int}{cp n:Nat->Nat}{f:Nat->Nat->Int}{ad ad2:Nat->Option Addr}{fa ga la:Option Addr}{w:World}
namespace Sp
open Go.RowKit
attribute [local go_sem ↓] Go.wp_at_zero Go.wp_at_succ
theorem stU:SqP.prog.underlying 68=some (.struct (SqP.prog.fieldsOf 68)):=by kernel_rfl
theorem stH:SqP.prog.stoodInHeld 68=false:=by kernel_rfl
theorem stG:SqP.prog.eqGuardType SqP.prog.depth 68=false:=by kernel_rfl
theorem zm4(k l k2 l2:Int)(w:World):Sem.run SqP.prog (binOp .neq 68 (.agg #[.int .i64 k,.int .i64 l]) (.agg #[.int .i64 k2,.int .i64 l2])) w=.ok (.bool (!(decide (k=k2/\l=l2)))) w:=by
 rw[run_neq_struct,run_equalIn_agg _ _ _ _ _ stU stH]
 simp[Op.eqFields,go_sem]
 by_cases h1:k=k2 <;> by_cases h2:l=l2 <;> simp[h1,h2]
def eqL(wd wd2:Int)(cs ds:List (Int × Int)):Bool:=decide (wd=wd2/\cs=ds)
theorem zgK(wd wd2:Int)(a a2:Option Addr)(cap cap2:Nat)(cs ds:List (Int × Int))(w:World)(h:zah w a cs)(h2:zah w a2 ds)(hm:cs.length<=1048576)(hm2:ds.length<=1048576) :
  Calls SqP.prog 12 #[.agg #[.int .i64 wd,.slice a cs.length cap],.agg #[.int .i64 wd2,.slice a2 ds.length cap2]] w fun e w'=>e=.returned (.bool (eqL wd wd2 cs ds))/\Below w.heap.size w w':=by
 by_cases h1:wd=wd2
 ·subst h1
  by_cases hl:cs.length=ds.length
  ·have hbX:Below w.heap.size w ((w.alloc (.cells #[.int .i64 wd,.slice a cs.length cap] 25)).alloc (.cells #[.int .i64 wd,.slice a2 ds.length cap2] 25)):=bel
   have hln:((cs.length:Int) != (ds.length:Int))=false:=by simp[hl]
   have HL:Hid (cs.length=ds.length):=hl
   clear hl
   go_enter SqP.func12,Tryz.ntmps12
   go_wp2
   go_loopw [5] (fun i wr=>∃ k:Nat,k<=cs.length/\i=.int .i64 k/\cs.take k=ds.take k/\Below w.heap.size w wr/\wr.cell? ⟨w.heap.size,1,none⟩=some (.slice a cs.length cap)/\wr.cell? ⟨w.heap.size+1,1,none⟩=some (.slice a2 ds.length cap2)) (fun i _=>cs.length - (intOf i).toNat)
   case atStart=>exact⟨0,Nat.zero_le _,rfl,by simp,hbX,by simp[go_sem],by simp[go_sem]⟩
   case round =>
    clear hbX
    obtain⟨k,hk,rfl,htk,hb,b1,b2⟩:=hrel
    have HT:Hid (cs.take k=ds.take k):=htk
    clear htk
    by_cases hlt:k<cs.length
    ·have hlt2:k<ds.length:=by have:=HL.out;omega
     rcases h with h|⟨b,off,rfl,hbl,hcell⟩
     ·subst h;simp at hlt
     rcases h2 with h2|⟨b2',off2,rfl,hbl2,hcell2⟩
     ·subst h2;simp at hlt2
     obtain⟨hx,hy⟩:=hcell k hlt
     rw[<- hb.cell (p:=⟨b,_,none⟩) hbl] at hx hy
     obtain⟨hx2,hy2⟩:=hcell2 k hlt2
     rw[<- hb.cell (p:=⟨b2',_,none⟩) hbl2] at hx2 hy2
     clear hcell hcell2
     obtain⟨kx,lx,hkl⟩:∃ kx lx:Int,cs.getD k (0,0)=(kx,lx):=⟨_,_,rfl⟩
     obtain⟨ky,ly,hkl2⟩:∃ ky ly:Int,ds.getD k (0,0)=(ky,ly):=⟨_,_,rfl⟩
     rw[hkl] at hx hy
     rw[hkl2] at hx2 hy2
     have hg:=stG
     have e1:cs[k]=(kx,lx):=by rw[<- hkl];simp[hlt]
     have e2:ds[k]=(ky,ly):=by rw[<- hkl2];simp[hlt2]
     have hz:=hb.size
     by_cases hq:kx=ky/\lx=ly
     ·obtain⟨rfl,rfl⟩:=hq
      have hqq:∀ w:World,Sem.run SqP.prog (binOp .neq 68 (.agg #[.int .i64 kx,.int .i64 lx]) (.agg #[.int .i64 kx,.int .i64 lx])) w=.ok (.bool false) w:=fun w=>by rw[zm4];simp
      have HN:Hid (cs.take (k+1)=ds.take (k+1)):=by
       show _=_
       rw[List.take_succ_eq_append_getElem hlt,List.take_succ_eq_append_getElem hlt2,HT.out,e1,e2]
      clear hkl hkl2 e1 e2
      go_wp2
      go_quiet (fail)
      go_wp2
      go_roundw
      case rel=>exact⟨k+1,by omega,by go_num,HN.out,⟨hb.os,hb.tape,hb.output,hb.size,hb.block⟩,b1,b2⟩
      case measure=>simp[intOf];omega
     ·have hqq:∀ w:World,Sem.run SqP.prog (binOp .neq 68 (.agg #[.int .i64 kx,.int .i64 lx]) (.agg #[.int .i64 ky,.int .i64 ly])) w=.ok (.bool true) w:=fun w=>by rw[zm4];simp[hq]
      have HN:Hid (eqL wd wd cs ds=false):=by
       show _=_
       simp only[eqL,true_and,decide_eq_false_iff_not]
       intro hx'
       subst hx'
       rw[e1] at e2
       simp only[Prod.mk.injEq] at e2
       exact hq e2
      clear hkl hkl2 e1 e2
      go_wp2
      go_quiet (fail)
      go_wp2
      go_ret
      exact⟨by rw[HN.out];rfl,⟨hb.os,hb.tape,hb.output,hb.size,hb.block⟩⟩
    ·have HN:Hid (eqL wd wd cs ds=true):=by
      show _=_
      have:=HT.out
      rw[List.take_of_length_le (by omega),List.take_of_length_le (by have:=HL.out;omega)] at this
      simp[eqL,this]
     go_wp2
     go_ret
     exact⟨by rw[HN.out];rfl,hb⟩
  ·have hln:((cs.length:Int) != (ds.length:Int))=true:=by simp;omega
   go_enter SqP.func12,Tryz.ntmps12
   go_wp2
   go_ret
   exact⟨by rw[show eqL wd wd cs ds=false from by simp[eqL];intro hx;exact hl (by rw[hx])];rfl,bel⟩
 ·go_enter SqP.func12,Tryz.ntmps12
  go_wp2
  go_ret
  exact⟨by rw[show eqL wd wd2 cs ds=false from by simp[eqL,h1]];rfl,bel⟩
theorem zeV(a a2:Option Addr)(c c2 n:Nat)(f:Nat->Int)(w:World)(h:RI w a (n * 1) f)(h2:RI w a2 (n * 1) f)(hm:n<=1048576) :
  Calls SqP.prog 9 #[.slice a n c,.slice a2 n c2] w fun e w'=>e=.returned (.bool true)/\Below w.heap.size w w':=by
 have bl:((n:Int) != (n:Int))=false:=by simp
 go_enter SqP.func9,Tryz.ntmps9
 go_wp2_with fail
 go_loopw [5] (fun ii wr=>∃ i:Nat,i<=n/\ii=.int .i64 i/\Below w.heap.size w wr) (fun ii _=>n - (intOf ii).toNat)
 case atStart=>exact⟨0,Nat.zero_le _,rfl,Below.refl _ _⟩
 case round =>
  rename World=>wo
  obtain⟨i,hi,rfl,hb⟩:=hrel
  by_cases hlt:i<n
  ·obtain⟨g,ea,_,hc⟩:=(h.below hb).at (by omega)
   obtain⟨g2,ea2,_,hc2⟩:=(h2.below hb).at (by omega)
   subst ea
   subst ea2
   have x0:=(hc i (by omega)).1
   have y0:=(hc2 i (by omega)).1
   have hil:(i:Int)<(n:Int):=by omega
   have hne:(f i != f i)=false:=by simp
   clear h h2 hc hc2
   go_wp2_with fail
   go_quiet (fail)
   have hbq:Below w.heap.size w (wo.drewN nq):=⟨hb.os,hb.tape,hb.output,hb.size,hb.block⟩
   go_wp2_with fail
   go_roundw
   case rel=>exact⟨i+1,by omega,by go_num,hbq⟩
   case measure=>simp[intOf];omega
  ·go_wp2_with fail
   go_ret
   exact⟨rfl,hb⟩
theorem zo3(a a2:Option Addr)(c c2 M lo hi lo2 hi2:Nat)(ad ad2:Nat->Option Addr)(n cp cp2:Nat->Nat)(f:Nat->Nat->Int)(w:World)(h:zfg w lo hi a M ad n cp f)(h2:zfg w lo2 hi2 a2 M ad2 n cp2 f)(hm:M<=1048576)(hn:∀ k,k<M->n k<=1000) :
  Calls SqP.prog 31 #[.slice a M c,.slice a2 M c2] w fun e w'=>e=.returned (.bool true)/\Below w.heap.size w w':=by
 have bl:((M:Int) != (M:Int))=false:=by simp
 go_enter SqP.func31,Tryz.ntmps31
 go_wp2_with fail
 go_loopw [5] (fun ii wr=>∃ i:Nat,i<=M/\ii=.int .i64 i/\Below w.heap.size w wr) (fun ii _=>M - (intOf ii).toNat)
 case atStart=>exact⟨0,Nat.zero_le _,rfl,Below.refl _ _⟩
 case round =>
  rename World=>wo
  obtain⟨i,hi,rfl,hb⟩:=hrel
  have hzo:=hb.size
  by_cases hlt:i<M
  ·rcases h.below hb with q|⟨b,rfl,hy⟩
   ·omega
   rcases h2.below hb with q|⟨b2,rfl,hy2⟩
   ·omega
   have x0:=hy.cell i hlt
   have r0:=hy.row i hlt
   have y0:=hy2.cell i hlt
   have r2:=hy2.row i hlt
   have hn0:=hn i hlt
   obtain⟨g,eg⟩:∃ g,ad i=g:=⟨_,rfl⟩
   obtain⟨g2,eg2⟩:∃ g,ad2 i=g:=⟨_,rfl⟩
   obtain⟨m,em⟩:∃ g,n i=g:=⟨_,rfl⟩
   obtain⟨p,ep⟩:∃ g,cp i=g:=⟨_,rfl⟩
   obtain⟨p2,ep2⟩:∃ g,cp2 i=g:=⟨_,rfl⟩
   rw[eg,em] at r0
   rw[eg,em,ep] at x0
   rw[eg2,em] at r2
   rw[eg2,em,ep2] at y0
   rw[em] at hn0
   have hltI:(i:Int)<(M:Int):=by omega
   have wk:IntKind.i64.wrap ((i:Int)+1)=(i:Int)+1:=IntWalk.i64_in _ (by omega)
   clear h h2 hy hy2 eg eg2 em ep ep2 hn
   go_wp2
   go_region_held3 (fun w'=>w'.cell? ⟨b,i,none⟩=some (.slice g m p)/\w'.cell? ⟨b2,i,none⟩=some (.slice g2 m p2))
    (first
     | exact⟨zab hb7 x0,zab hb7 y0⟩
     | exact⟨x0,y0⟩
     | go_keep)
    (first
     | (go_at_call 9;refine(zeV g g2 p p2 m (f i) _ (r0.below (by first|exact Below.refl _ _|exact(Below.refl _ _).drew)) (r2.below (by first|exact Below.refl _ _|exact(Below.refl _ _).drew)) (by omega)).mono ?_;rintro e w7 ⟨rfl,hb7'⟩;have hb7:Below wo.heap.size wo w7:=(by first|exact hb7'|exact zbI hb7'))
     | fail)
   all_goals
    have hb8:=zak hb hzo hb7
    go_wp2_with fail
    go_roundw
    case rel=>exact⟨i+1,by omega,by go_num,by first|exact hb8|exact hb8.drew⟩
    case measure=>simp[intOf];omega
  ·have hnl:¬ (i:Int)<(M:Int):=by omega
   go_wp2_with fail
   go_ret
   exact⟨rfl,hb⟩
theorem zsj{b:Nat}{v0 v1 v2 v3:Value}{t:TypeId}(h:w.heap[b]?=some (.cells #[v0,v1,v2,v3] t)):w.cell? ⟨b,0,none⟩=some v0/\w.cell? ⟨b,1,none⟩=some v1/\w.cell? ⟨b,2,none⟩=some v2/\w.cell? ⟨b,3,none⟩=some v3 :=
 ⟨(cell_of_row _ _ 0 _ _ _ h).trans rfl,(cell_of_row _ _ 1 _ _ _ h).trans rfl,(cell_of_row _ _ 2 _ _ _ h).trans rfl,(cell_of_row _ _ 3 _ _ _ h).trans rfl⟩
theorem zsc{ga2 la2 fa2:Option Addr}{gc lc fc gc2 lc2 fc2 B hi B2 hi2:Nat}{cp2:Nat->Nat}(h:Sn w B hi N cs M l n f ga la fa gc ad cp)(h2:Sn w B2 hi2 N cs M l n f ga2 la2 fa2 gc2 ad2 cp2)(hN:cs.length=N)(hm:N<=25)(hM:M<=20)(hn:∀ k,k<M->n k<=1000) :
  Calls SqP.prog 8 #[.agg #[.int .i64 wd,.slice ga N gc,.slice la M lc,.slice fa M fc],.agg #[.int .i64 wd,.slice ga2 N gc2,.slice la2 M lc2,.slice fa2 M fc2]] w fun e w'=>e=.returned (.bool true)/\Below w.heap.size w w':=by
 obtain⟨w2,hw2⟩:∃ w2,w2=(w.alloc (.cells #[.int .i64 wd,.slice ga N gc,.slice la M lc,.slice fa M fc] 30)).alloc (.cells #[.int .i64 wd,.slice ga2 N gc2,.slice la2 M lc2,.slice fa2 M fc2] 30):=⟨_,rfl⟩
 have H2:Hid (zds w w2 [(w.heap.size+1,.cells #[.int .i64 wd,.slice ga2 N gc2,.slice la2 M lc2,.slice fa2 M fc2] 30),(w.heap.size,.cells #[.int .i64 wd,.slice ga N gc,.slice la M lc,.slice fa M fc] 30)]):=by rw[hw2];exact zqI _ _ w
 have HA:Hid (Sn w2 B hi N cs M l n f ga la fa gc ad cp):=h.below H2.out.below
 have HB:Hid (Sn w2 B2 hi2 N cs M l n f ga2 la2 fa2 gc2 ad2 cp2):=h2.below H2.out.below
 have hG:=zgK wd wd ga ga2 gc gc2 cs cs w2 (zeZ HA.out.own) (zeZ HB.out.own) (by omega) (by omega)
 have eG:eqL wd wd cs cs=true:=by simp[eqL]
 rw[eG,hN] at hG
 clear eG h h2 hN
 go_enter SqP.func8,Tryz.ntmps8
 go_upto_region 1 with fail
 rw[<- hw2]
 clear hw2
 obtain⟨c0,c1,c2,c3⟩:=zsj (H2.out.lies (w.heap.size,.cells #[.int .i64 wd,.slice ga N gc,.slice la M lc,.slice fa M fc] 30) (by simp)).1
 obtain⟨d0,d1,d2,d3⟩:=zsj (H2.out.lies (w.heap.size+1,.cells #[.int .i64 wd,.slice ga2 N gc2,.slice la2 M lc2,.slice fa2 M fc2] 30) (by simp)).1
 go_wp2_with fail
 refine hG.mono ?_
 rintro e w3 ⟨rfl,hb⟩
 have H3:Hid (Below w.heap.size w w3):=zak H2.out.below H2.out.below.size hb
 have HA3:Hid (Sn w3 B hi N cs M l n f ga la fa gc ad cp):=HA.out.below hb
 have HB3:Hid (Sn w3 B2 hi2 N cs M l n f ga2 la2 fa2 gc2 ad2 cp2):=HB.out.below hb
 replace c2:=zab hb c2;replace c3:=zab hb c3;replace d2:=zab hb d2;replace d3:=zab hb d3
 clear hb hG c0 c1 d0 d1 HA HB H2
 go_wp2_with fail
 refine(zeV la la2 lc lc2 M l w3 HA3.out.li HB3.out.li (by omega)).mono ?_
 rintro e w4 ⟨rfl,hb⟩
 have H4:Hid (Below w.heap.size w w4):=zak H3.out H3.out.size hb
 have HA4:Hid (Sn w4 B hi N cs M l n f ga la fa gc ad cp):=HA3.out.below hb
 have HB4:Hid (Sn w4 B2 hi2 N cs M l n f ga2 la2 fa2 gc2 ad2 cp2):=HB3.out.below hb
 replace c3:=zab hb c3;replace d3:=zab hb d3
 clear hb c2 d2 HA3 HB3 H3
 go_wp2_with fail
 refine(zo3 fa fa2 fc fc2 M B hi B2 hi2 ad ad2 n cp cp2 f w4 HA4.out.feet HB4.out.feet (by omega) hn).mono ?_
 rintro e w5 ⟨rfl,hb⟩
 go_wp2_with fail
 go_ret
 exact⟨rfl,zak H4.out H4.out.size hb⟩
theorem zqX{ok:Bool}{r:Ending}{w':World}(h:zq9 w wd N cs M l n f ok r w'):zsg w wd N M ((List.range M).map l) ((List.range M).map fun k=>(List.range (n k)).map (f k)) ok r w':=by
 obtain⟨ga,la,fa,gc,lc,fc,ad,cp,h1,h2,h3⟩:=h
 exact⟨ga,la,fa,gc,lc,fc,h1,zhz h2.li,zgO h2.feet,h3⟩
theorem zqL{W H:Nat}(S:Siz wd cs W H)(hM:2 * (W+H)=M)(hN:cs.length=N)(hM20:M<=20)(hnf:∀ k:Nat,k<M->(zaI wd cs (k:Int)).length<=1000){B hi:Nat}{gc lc fc:Nat}(h:Sn w B hi N cs M (fun j=>zaF wd cs (j:Int)) (fun j=>(zaI wd cs (j:Int)).length) (fun j i=>(zaI wd cs (j:Int)).getD i 0) ga la fa gc ad cp) :
  Calls SqP.prog 11 #[.agg #[.int .i64 wd,.slice ga N gc,.slice la M lc,.slice fa M fc]] w fun e w'=>e=.returned (.bool true)/\Below w.heap.size w w':=by
 have hn25:=(zjV S).1.1
 have hx:∀ k,k<((List.range M).map fun (k:Nat)=>(List.range (zaI wd cs (k:Int)).length).map fun i=>(zaI wd cs (k:Int)).getD i 0).length->(((List.range M).map fun (k:Nat)=>(List.range (zaI wd cs (k:Int)).length).map fun i=>(zaI wd cs (k:Int)).getD i 0).getD k []).length<=1048576:=fun k hk=>by
  have hk':k<M:=by simpa using hk
  have:=hnf k hk'
  simp[hk']
  omega
 have hq:=zfE wd ga la fa gc lc fc cs ((List.range M).map fun (j:Nat)=>zaF wd cs (j:Int)) ((List.range M).map fun (k:Nat)=>(List.range (zaI wd cs (k:Int)).length).map fun i=>(zaI wd cs (k:Int)).getD i 0) w (zeZ h.own) (zhz h.li) (zgO h.feet) ⟨by omega,by simp;omega,by simp;omega,hx⟩ (by simp) (by simp) hM20 hx (fun a cap w h=>(zia S hM hN a cap w h).mono fun e w' q=>zqX q)
 simp only[List.length_map,List.length_range,hN] at hq
 refine hq.mono fun e w' q=>⟨?_,q.2⟩
 rw[q.1]
 simp
theorem zrC{g:Nat}(h:w.heap[g]?=some (zbD wd cs M)):RI w (some ⟨g,0,none⟩) (M * 1) (fun j=>zaF wd cs (j:Int)):=by
 refine .inr ⟨g,rfl,(gei h).1,fun j hj=>⟨?_,frozen_of_row _ _ j _ _ h⟩⟩
 rw[cell_of_row _ _ j _ _ _ h]
 simp[show j<M by omega]
theorem zqA(a:Option Addr)(cap:Nat)(w:World)(h:zah w a cs)(hm:cs.length<=1048576)(k:Int) :
  Calls SqP.prog 10 #[.agg #[.int .i64 wd,.slice a cs.length cap],.int .i64 k] w fun e w'=>∃ ra rc,e=.returned (.slice ra (zaI wd cs k).length rc)/\RI w' ra ((zaI wd cs k).length * 1) (fun i=>(zaI wd cs k).getD i 0)/\Below w.heap.size w w' :=
 (zc9 wd a cap cs w h hm k).mono fun e w' ⟨v,h1,h2,_,h4⟩=>by
  obtain⟨ra,rc,e1,h5,_⟩:=ziE (zeB h2)
  exact⟨ra,rc,by rw[h1,e1],h5,h4⟩
set_option maxRecDepth 100000 in
theorem ziP(a:Option Addr)(n cap:Nat)(f:Nat->Int)(w:World)(h:BytesAt w a n f)(hm:n<=cap/\cap<=9223372036854775807)(hbig:1048576<n) :
  Calls SqP.prog 3 #[.slice a n cap] w fun e w'=>e=.returned (.bool true)/\Below w.heap.size w w':=by
 have hb:(1048576:Int)<(n:Int):=by omega
 go_enter SqP.func3,Tryz.ntmps3
 go_wp2
 go_ret
 exact⟨rfl,Below.refl _ _⟩
set_option maxRecDepth 100000 in
theorem zgt(a:Option Addr)(n cap:Nat)(f:Nat->Int)(w:World)(h:BytesAt w a n f)(hm:n<=cap/\cap<=9223372036854775807)(hsm:n<=1048576) :
  Calls SqP.prog 3 #[.slice a n cap] w fun e w'=>e=.returned (.bool true)/\Below w.heap.size w w':=by
 have hb:(n:Int)<=1048576:=by omega
 go_enter SqP.func3,Tryz.ntmps3
 go_wp2_with fail
 refine(zeI a n cap f w h hsm hm.1 hm.2).mono ?_
 rintro e w1 ⟨wd,a1,c1,cs,rfl,hC1,hl1,hb_w1⟩
 have hz_w1:=hb_w1.size
 have hbS1:Below w1.heap.size w1 (w1.alloc (.cells #[.int .i64 wd,.slice a1 cs.length c1] 25)):=bel
 replace hC1:=hC1.below hbS1
 have g0:(w1.alloc (.cells #[.int .i64 wd,.slice a1 cs.length c1] 25)).cell? ⟨w1.heap.size,0,none⟩=some (.int .i64 wd):=by simp[go_sem]
 have g1:(w1.alloc (.cells #[.int .i64 wd,.slice a1 cs.length c1] 25)).cell? ⟨w1.heap.size,1,none⟩=some (.slice a1 cs.length c1):=by simp[go_sem]
 have hBs1:=zak hb_w1 (by omega) hbS1
 have z01:w.heap.size<=w1.heap.size:=hz_w1
 clear hb_w1 hbS1 h
 rcases hk:okG wd cs with _|_
 ·go_wp2_with fail
  refine(zpt hk (by omega) a1 c1 _ hC1).mono ?_
  rintro e w2 ⟨a2,b2,e2,c2,d2,f2,r2,s2,rfl,hK2,hb_w2⟩
  have hz_w2:=hb_w2.size
  simp at hz_w2
  replace g0:=zab hb_w2 g0;replace g1:=zab hb_w2 g1
  replace hC1:=hC1.below hb_w2
  have hB_w2:=zak hBs1 (by first|omega|(simp;omega)) hb_w2
  clear hBs1 hb_w2
  have hbX:Below w2.heap.size w2 (w2.alloc (.cells #[.int .i64 0,.slice a2 0 c2,.slice b2 0 d2,.slice e2 0 f2] 30)):=bel
  replace hK2:=hK2.below hbX
  replace hC1:=hC1.below hbX
  obtain⟨q0,q1,q2,q3⟩:=zrV w2 (.int .i64 0) (.slice a2 0 c2) (.slice b2 0 d2) (.slice e2 0 f2) 30
  have hBX:=zak hB_w2 (by omega) hbX
  have z2:w1.heap.size<w2.heap.size:=by omega
  have G0:=zab hbX g0
  have G1:=zab hbX g1
  go_wp2_with fail
  refine(zoO hk (by omega) a1 c1 _ hC1).mono ?_
  rintro e w3 ⟨a3,b3,e3,c3,d3,f3,r3,s3,rfl,hK3,hb_w3⟩
  have hz_w3:=hb_w3.size
  simp at hz_w3
  replace g0:=zab hb_w3 G0
  replace g1:=zab hb_w3 G1
  replace q0:=zab hb_w3 q0;replace q1:=zab hb_w3 q1;replace q2:=zab hb_w3 q2;replace q3:=zab hb_w3 q3
  replace hC1:=hC1.below hb_w3
  replace hK2:=hK2.below hb_w3
  have hB_w3:=zak hBX (by simp;omega) hb_w3
  clear hb_w3 hbX hBX G0 G1 hB_w2
  have hbY:Below w3.heap.size w3 (w3.alloc (.cells #[.int .i64 0,.slice a3 0 c3,.slice b3 0 d3,.slice e3 0 f3] 30)):=bel
  replace hK2:=hK2.below hbY
  replace hK3:=hK3.below hbY
  replace hC1:=hC1.below hbY
  obtain⟨j0,j1,j2,j3⟩:=zrV w3 (.int .i64 0) (.slice a3 0 c3) (.slice b3 0 d3) (.slice e3 0 f3) 30
  have hBY:=zak hB_w3 (by omega) hbY
  have z3:w1.heap.size<w3.heap.size:=by omega
  have z3':w2.heap.size<w3.heap.size:=by omega
  have G0:=zab hbY g0
  have G1:=zab hbY g1
  have Q0:=zab hbY q0
  have Q1:=zab hbY q1
  have Q2:=zab hbY q2
  have Q3:=zab hbY q3
  go_wp2_with fail
  refine(zsc hK3 hK2 rfl (by omega) (by omega) (fun k h=>by omega)).mono ?_
  rintro e w4 ⟨rfl,hb_w4⟩
  have hz_w4:=hb_w4.size
  simp at hz_w4
  replace g0:=zab hb_w4 G0
  replace g1:=zab hb_w4 G1
  replace q0:=zab hb_w4 Q0
  replace q1:=zab hb_w4 Q1
  replace q2:=zab hb_w4 Q2
  replace q3:=zab hb_w4 Q3
  replace j0:=zab hb_w4 j0;replace j1:=zab hb_w4 j1;replace j2:=zab hb_w4 j2;replace j3:=zab hb_w4 j3
  replace hC1:=hC1.below hb_w4
  replace hK2:=hK2.below hb_w4
  replace hK3:=hK3.below hb_w4
  have hB_w4:=zak hBY (by simp;omega) hb_w4
  clear hb_w4 hbY hBY G0 G1 Q0 Q1 Q2 Q3 hB_w3
  go_wp2_with fail
  refine(zsc hK3 hK2 rfl (by omega) (by omega) (fun k h=>by omega)).mono ?_
  rintro e w5 ⟨rfl,hb_w5⟩
  have hB_w5:=zak hB_w4 (by omega) hb_w5
  go_wp2_with fail
  go_ret
  exact⟨rfl,hB_w5⟩
 ·obtain⟨W,H,S⟩:=zd5 hk
  obtain⟨⟨hn25,hn0⟩,hM20⟩:=zjV S
  obtain⟨M,hM⟩:∃ M,2 * (W+H)=M:=⟨_,rfl⟩
  obtain⟨N,hN⟩:∃ N,cs.length=N:=⟨_,rfl⟩
  rw[hM] at hM20
  rw[hN] at hn25 hn0
  have hnf:∀ k:Nat,k<M->(zaI wd cs (k:Int)).length<=1000:=fun k _=>Nat.le_trans (zjq _ _) (by omega)
  have CS:=fun (a:Option Addr) (cap:Nat) (w:World) (h:zah w a cs)=>znI S hM hN a cap w h
  have CI:=fun (a:Option Addr) (cap:Nat) (w:World) (h:zah w a cs)=>zia S hM hN a cap w h
  have CO:=fun (B hi:Nat) (ga la fa:Option Addr) (gc lc fc:Nat) (ad:Nat->Option Addr) (cp:Nat->Nat) (w:World) (h:Sn w B hi N cs M (fun j=>zaF wd cs (j:Int)) (fun j=>(zaI wd cs (j:Int)).length) (fun j i=>(zaI wd cs (j:Int)).getD i 0) ga la fa gc ad cp)=>zqL S hM hN hM20 hnf (lc:=lc) (fc:=fc) h
  have CF:=fun (k:Int) (a:Option Addr) (cap:Nat) (w:World) (h:zah w a cs)=>zqA (wd:=wd) a cap w h (by omega) k
  have CG:=fun (a a2:Option Addr) (cap cap2:Nat) (w:World) (h:zah w a cs) (h2:zah w a2 cs)=>zgK wd wd a a2 cap cap2 cs cs w h h2 (by omega) (by omega)
  have CP:=fun (a:Option Addr) (cap:Nat) (w:World) (h:zah w a cs)=>zgN wd a cap cs w h hk M (by rw[S.em];omega)
  have eG:eqL wd wd cs cs=true:=by simp[eqL]
  rw[hN] at CS CI CF CG CP g0 g1
  simp only[eG] at CG
  have HN:Hid (cs.length=N):=hN
  have HC:Hid (∀(a:Option Addr) (cap:Nat) (w:World),zah w a cs->_):=CS
  have HI:Hid (∀(a:Option Addr) (cap:Nat) (w:World),zah w a cs->_):=CI
  have HO:Hid (∀(B hi:Nat) (ga la fa:Option Addr) (gc lc fc:Nat) (ad:Nat->Option Addr) (cp:Nat->Nat) (w:World),Sn w B hi N cs M (fun j=>zaF wd cs (j:Int)) (fun j=>(zaI wd cs (j:Int)).length) (fun j i=>(zaI wd cs (j:Int)).getD i 0) ga la fa gc ad cp->_):=CO
  have HF:Hid (∀(k:Int) (a:Option Addr) (cap:Nat) (w:World),zah w a cs->_):=CF
  have HG:Hid (∀(a a2:Option Addr) (cap cap2:Nat) (w:World),zah w a cs->zah w a2 cs->_):=CG
  have HP:Hid (∀(a:Option Addr) (cap:Nat) (w:World),zah w a cs->_):=CP
  rw[hN] at hBs1 hC1 ⊢
  clear hk S hM CS CI CO CF CG CP hN hl1 eG
  go_wp2_with fail
  refine(HC.out a1 c1 _ hC1).mono ?_
  rintro e w2 ⟨a2,b2,e2,c2,d2,f2,r2,s2,rfl,hK2,hb_w2⟩
  have hz_w2:=hb_w2.size
  simp at hz_w2
  replace g0:=zab hb_w2 g0;replace g1:=zab hb_w2 g1
  replace hC1:=hC1.below hb_w2
  have hB_w2:=zak hBs1 (by first|omega|(simp;omega)) hb_w2
  clear hBs1 hb_w2
  have hbX:Below w2.heap.size w2 (w2.alloc (.cells #[.int .i64 wd,.slice a2 N c2,.slice b2 M d2,.slice e2 M f2] 30)):=bel
  replace hK2:=hK2.below hbX
  replace hC1:=hC1.below hbX
  obtain⟨q0,q1,q2,q3⟩:=zrV w2 (.int .i64 wd) (.slice a2 N c2) (.slice b2 M d2) (.slice e2 M f2) 30
  have hBX:=zak hB_w2 (by omega) hbX
  have z2:w1.heap.size<w2.heap.size:=by omega
  have G0:=zab hbX g0
  have G1:=zab hbX g1
  go_wp2_with fail
  refine(HI.out a1 c1 _ hC1).mono ?_
  rintro e w3 ⟨a3,b3,e3,c3,d3,f3,r3,s3,rfl,hK3,hb_w3⟩
  have hz_w3:=hb_w3.size
  simp at hz_w3
  replace g0:=zab hb_w3 G0
  replace g1:=zab hb_w3 G1
  replace q0:=zab hb_w3 q0;replace q1:=zab hb_w3 q1;replace q2:=zab hb_w3 q2;replace q3:=zab hb_w3 q3
  replace hC1:=hC1.below hb_w3
  replace hK2:=hK2.below hb_w3
  have hB_w3:=zak hBX (by simp;omega) hb_w3
  clear hb_w3 hbX hBX G0 G1 hB_w2
  have hbY:Below w3.heap.size w3 (w3.alloc (.cells #[.int .i64 wd,.slice a3 N c3,.slice b3 M d3,.slice e3 M f3] 30)):=bel
  replace hK2:=hK2.below hbY
  replace hK3:=hK3.below hbY
  replace hC1:=hC1.below hbY
  obtain⟨j0,j1,j2,j3⟩:=zrV w3 (.int .i64 wd) (.slice a3 N c3) (.slice b3 M d3) (.slice e3 M f3) 30
  have hBY:=zak hB_w3 (by omega) hbY
  have z3:w1.heap.size<w3.heap.size:=by omega
  have z3':w2.heap.size<w3.heap.size:=by omega
  have G0:=zab hbY g0
  have G1:=zab hbY g1
  have Q0:=zab hbY q0
  have Q1:=zab hbY q1
  have Q2:=zab hbY q2
  have Q3:=zab hbY q3
  go_wp2_with fail
  refine(zsc hK3 hK2 HN.out hn25 hM20 hnf).mono ?_
  rintro e w4 ⟨rfl,hb_w4⟩
  have hz_w4:=hb_w4.size
  simp at hz_w4
  replace g0:=zab hb_w4 G0
  replace g1:=zab hb_w4 G1
  replace q0:=zab hb_w4 Q0
  replace q1:=zab hb_w4 Q1
  replace q2:=zab hb_w4 Q2
  replace q3:=zab hb_w4 Q3
  replace j0:=zab hb_w4 j0;replace j1:=zab hb_w4 j1;replace j2:=zab hb_w4 j2;replace j3:=zab hb_w4 j3
  replace hC1:=hC1.below hb_w4
  replace hK2:=hK2.below hb_w4
  replace hK3:=hK3.below hb_w4
  have hB_w4:=zak hBY (by simp;omega) hb_w4
  clear hb_w4 hbY hBY G0 G1 Q0 Q1 Q2 Q3 hB_w3
  clear hK2 q0 q1 q2 q3
  go_wp2_with fail
  go_loopw [8] (fun kk wr=>∃ k:Nat,k<=M/\kk=.int .i64 k/\Below w4.heap.size w4 wr) (fun kk _=>M - (intOf kk).toNat)
  case atStart=>exact⟨0,Nat.zero_le _,rfl,Below.refl _ _⟩
  case round =>
   rename World=>wo
   obtain⟨k,hk,rfl,hbo⟩:=hrel
   have hzo:=hbo.size
   replace g0:=zab hbo g0;replace g1:=zab hbo g1;replace j0:=zab hbo j0;replace j1:=zab hbo j1;replace j2:=zab hbo j2;replace j3:=zab hbo j3
   have hCo:=hC1.below hbo
   have hKo:=hK3.below hbo
   clear hC1 hK3
   by_cases hlt:k<M
   ·have bl:decide ((k:Int)<(M:Int))=true:=decide_eq_true (by omega)
    have hltI:(k:Int)<(M:Int):=by omega
    have wk:IntKind.i64.wrap ((k:Int)+1)=(k:Int)+1:=IntWalk.i64_in _ (by omega)
    have hf1:=hnf k hlt
    obtain⟨p3,rfl,R3⟩:=(hKo.feet).resolve_left (by omega)
    have t3:=R3.cell k hlt
    have q3:=R3.row k hlt
    clear R3
    try dsimp only at t3 q3
    have CFk:=HF.out (k:Int)
    obtain⟨ft,eft⟩:∃ ft:List Int,zaI wd cs (k:Int)=ft:=⟨_,rfl⟩
    obtain⟨ra3,era⟩:∃ x,r3 k=x:=⟨_,rfl⟩
    obtain⟨rc3,erc⟩:∃ x,s3 k=x:=⟨_,rfl⟩
    rw[eft] at t3 q3 hf1 CFk
    rw[era] at t3 q3
    rw[erc] at t3
    obtain⟨v,hv⟩:∃ v,ft.length=v:=⟨_,rfl⟩
    rw[hv] at t3 q3 hf1 CFk
    clear hv eft era erc
    go_wp2
    go_region_held3 (fun w'=>(w'.cell? ⟨w1.heap.size,0,none⟩=some (.int .i64 wd)/\w'.cell? ⟨w1.heap.size,1,none⟩=some (.slice a1 N c1)/\w'.cell? ⟨w3.heap.size,0,none⟩=some (.int .i64 wd)/\w'.cell? ⟨w3.heap.size,1,none⟩=some (.slice a3 N c3)/\w'.cell? ⟨w3.heap.size,2,none⟩=some (.slice b3 M d3)/\w'.cell? ⟨w3.heap.size,3,none⟩=some (.slice (some ⟨p3,0,none⟩) M f3))/\w'.cell? ⟨p3,k,none⟩=some (.slice ra3 v rc3))
     (first
     | exact⟨⟨zab hb6 (zab hb5 g0),zab hb6 (zab hb5 g1),zab hb6 (zab hb5 j0),zab hb6 (zab hb5 j1),zab hb6 (zab hb5 j2),zab hb6 (zab hb5 j3)⟩,zab hb6 (zab hb5 t3)⟩
     | exact⟨⟨zab hb5 g0,zab hb5 g1,zab hb5 j0,zab hb5 j1,zab hb5 j2,zab hb5 j3⟩,zab hb5 t3⟩
     | exact⟨⟨g0,g1,j0,j1,j2,j3⟩,t3⟩
     | go_keep)
     (first
     | (go_at_call 10;refine(CFk a1 c1 _ (by first|exact hCo|exact hCo.below (Below.refl _ _).drew)).mono ?_;rintro e w5 ⟨ra5,rc5,rfl,hR5,hb5'⟩;have hb5:Below wo.heap.size wo w5:=(by first|exact hb5'|exact zbI hb5'))
     | (go_at_call 9;refine(zeV _ _ _ _ v _ _ (q3.below hb5) hR5 (by omega)).mono ?_;rintro e w6 ⟨rfl,hb6'⟩;have hb6:Below w5.heap.size w5 w6:=(by first|exact hb6'|exact zbI hb6'))
     | fail)
    all_goals
     have hb8:=zak hbo hzo (zak hb5 hb5.size hb6)
     go_wp2_with fail
     go_roundw
     case rel=>exact⟨k+1,by omega,by go_num,by first|exact hb8|exact hb8.drew⟩
     case measure=>simp[intOf];omega
   ·have bl:decide ((k:Int)<(M:Int))=false:=decide_eq_false (by omega)
    have bM:((M:Int) == (M:Int))=true:=by simp
    have hOo:=fun (w5:World) (hb:Below wo.heap.size wo w5)=>HO.out _ _ _ _ _ c3 d3 f3 _ _ w5 (hKo.below hb)
    have hGo:=fun (w5:World) (hb:Below wo.heap.size wo w5)=>HG.out a3 a1 c3 c1 w5 (zeZ (hKo.below hb).own) (hCo.below hb)
    have hPo:=fun (w5:World) (hb:Below wo.heap.size wo w5)=>HP.out a1 c1 w5 (hCo.below hb)
    have hLo:=fun (w5:World) (hb:Below wo.heap.size wo w5)=>(hKo.below hb).li
    clear hKo hCo
    go_wp2
    go_region_held3 (fun w'=>w'.cell? ⟨w1.heap.size,0,none⟩=some (.int .i64 wd)/\w'.cell? ⟨w1.heap.size,1,none⟩=some (.slice a1 N c1)/\w'.cell? ⟨w3.heap.size,0,none⟩=some (.int .i64 wd)/\w'.cell? ⟨w3.heap.size,1,none⟩=some (.slice a3 N c3)/\w'.cell? ⟨w3.heap.size,2,none⟩=some (.slice b3 M d3)/\w'.cell? ⟨w3.heap.size,3,none⟩=some (.slice e3 M f3))
     (first
     | exact⟨zab hb8 (zab hb7 (zab hb6 (zab hb5 (g0)))),zab hb8 (zab hb7 (zab hb6 (zab hb5 (g1)))),zab hb8 (zab hb7 (zab hb6 (zab hb5 (j0)))),zab hb8 (zab hb7 (zab hb6 (zab hb5 (j1)))),zab hb8 (zab hb7 (zab hb6 (zab hb5 (j2)))),zab hb8 (zab hb7 (zab hb6 (zab hb5 (j3))))⟩
     | exact⟨zab hb7 (zab hb6 (zab hb5 (g0))),zab hb7 (zab hb6 (zab hb5 (g1))),zab hb7 (zab hb6 (zab hb5 (j0))),zab hb7 (zab hb6 (zab hb5 (j1))),zab hb7 (zab hb6 (zab hb5 (j2))),zab hb7 (zab hb6 (zab hb5 (j3)))⟩
     | exact⟨zab hb6 (zab hb5 (g0)),zab hb6 (zab hb5 (g1)),zab hb6 (zab hb5 (j0)),zab hb6 (zab hb5 (j1)),zab hb6 (zab hb5 (j2)),zab hb6 (zab hb5 (j3))⟩
     | exact⟨zab hb5 (g0),zab hb5 (g1),zab hb5 (j0),zab hb5 (j1),zab hb5 (j2),zab hb5 (j3)⟩
     | exact⟨g0,g1,j0,j1,j2,j3⟩
     | go_keep)
     (first
     | (go_at_call 11;refine(hOo _ (by first|exact Below.refl _ _|exact(Below.refl _ _).drew)).mono ?_;rintro e w5 ⟨rfl,hb5'⟩;have hb5:Below wo.heap.size wo w5:=(by first|exact hb5'|exact zbI hb5'))
     | (go_at_call 12;refine(hGo _ (by first|exact hb5|exact hb5.drew)).mono ?_;rintro e w6 ⟨rfl,hb6'⟩;have hb6:Below w5.heap.size w5 w6:=(by first|exact hb6'|exact zbI hb6');have hb56:=zak hb5 hb5.size hb6)
     | (go_at_call 13;refine(hPo _ (by first|exact hb56|exact hb56.drew)).mono ?_;rintro e w7 ⟨g7,rfl,_,hp7,hb7'⟩;have hb7:Below w6.heap.size w6 w7:=(by first|exact hb7'|exact zbI hb7');have hb57:=zak hb56 hb56.size hb7)
     | (go_at_call 9;refine(zeV _ _ _ _ M _ _ (hLo _ hb57) (zrC hp7) (by omega)).mono ?_;rintro e w8 ⟨rfl,hb8'⟩;have hb8:Below w7.heap.size w7 w8:=(by first|exact hb8'|exact zbI hb8'))
     | fail)
    all_goals
     have hb9:=zak hB_w4 (by omega) (zak hbo hzo (zak hb57 hb57.size hb8))
     go_wp2_with fail
     go_ret
     exact⟨rfl,by first|exact hb9|exact hb9.drew⟩
theorem ziO(a:Option Addr)(n cap:Nat)(f:Nat->Int)(w:World)(h:BytesAt w a n f)(hm:n<=cap/\cap<=9223372036854775807) :
  Calls SqP.prog 3 #[.slice a n cap] w fun e w'=>e=.returned (.bool true)/\Below w.heap.size w w':=by
 by_cases hs:n<=1048576
 ·exact zgt a n cap f w h hm hs
 ·exact ziP a n cap f w h hm (by omega)
