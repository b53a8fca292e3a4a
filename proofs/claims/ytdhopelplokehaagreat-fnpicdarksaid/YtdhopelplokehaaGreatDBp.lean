/- Of the proof: NGr, NGw -/
import Derived.Test.YtdhopelplokehaaGreatDBe
import Derived.Test.YtdhopelplokehaaGreatDBn
set_option maxHeartbeats 4000000
set_option linter.unusedVariables false
namespace Go.Proofs.YtdhopelplokehaaGreat
namespace Sp.Sn
open Go.RowKit
theorem infoIntR:(SqN.prog.info? 3).map (fun i=>(i.zero,i.size,i.bytes))=some (some (.int .i64 0),1,8):=by kernel_rfl
theorem make_row (n:Nat) (hn:n<=1048576) (w:World):(Instr.makeSlice 27 (.int .i64 (n:Int)) (.int .i64 (n:Int))).run SqN.prog w=.ok (.slice (some ⟨w.heap.size,0,none⟩) n n) (w.alloc (.cells (madeCells #[.int .i64 0] n) 3)):=by
 obtain ⟨i0,hi,iz0,iz1,iz2⟩:=info_parts infoIntR
 have:=run_make (P:=SqN.prog) w 27 3 i0 (.int .i64 0) SqN.underlying27 hi iz0 .i64 .i64 (n:Int) (n:Int) (by omega) (by omega) (by rw [iz2]; omega) (by omega)
 rw [iz1] at this
 simpa [Value.cells] using this
end Sp.Sn
namespace Sp.Sn
open Go.RowKit
attribute [local go_sem ↓] Go.wp_at_zero Go.wp_at_succ
set_option maxRecDepth 20000 in
theorem leaveRow_any (wd:Int) (a:Option Addr) (cap:Nat) (cs:List (Int × Int)) (w:World) (h:CellsAt w a cs) (hm:cs.length<=1048576) (k:Int) (M:Nat) (hM:manyG wd cs=(M:Int)) (hM20:M<=20) :
  Calls SqN.prog 49 #[.agg #[.int .i64 wd,.slice a cs.length cap],.int .i64 k] w fun e w'=>∃ g,e=.returned (.slice (some ⟨g,0,none⟩) M M)/\w.heap.size<=g/\RowB w' g M (fun j=>toN wd cs k (j:Int))/\Below w.heap.size w w':=by
 obtain ⟨L,hL⟩:∃ L,trailT wd cs k=L:=⟨_,rfl⟩
 obtain ⟨hE,hQ,hsum,hlen,hok⟩:=ends_known hL
 obtain ⟨es,hes⟩:∃ es,L.2=es:=⟨_,rfl⟩
 rw [hes] at hE hQ hsum hlen hok
 have hpos:∀ u ∈ es,1<=u.2.2:=fun u hu=>(hE u hu).1
 have ER:Hid (∀ q,toN wd cs k q=sumTo q es):=fun q=>by unfold toN; rw [hL,hes]
 have HL:Hid (trailT wd cs k=L):=hL
 have HES:Hid (L.2=es):=hes
 have HB:Hid (∀ (q:Int) i,0<=sumTo q (es.take i)/\sumTo q (es.take i)<=64):=by
  intro q i
  have q1:=sumTo_in q (es.take i) (fun u hu=>hpos u (List.mem_of_mem_take hu))
  have q2:=sum_take hpos i
  omega
 have HE:Hid (∀ u ∈ es,EndOk wd cs u):=hE
 have HQ:Hid (∀ u ∈ es,u.2.2<=64):=hQ
 have EM:Hid (manyG wd cs=(M:Int)):=hM
 have hmk:=make_row M (by omega)
 have hbX:Below w.heap.size w (w.alloc (.cells #[.int .i64 wd,.slice a cs.length cap] 25)):=bel
 have g0:(w.alloc (.cells #[.int .i64 wd,.slice a cs.length cap] 25)).cell? ⟨w.heap.size,0,none⟩=some (.int .i64 wd):=by simp [go_sem]
 have g1:(w.alloc (.cells #[.int .i64 wd,.slice a cs.length cap] 25)).cell? ⟨w.heap.size,1,none⟩=some (.slice a cs.length cap):=by simp [go_sem]
 have hC:=h.below hbX
 clear hL hes hE hQ hpos hok hM
 go_enter SqN.func49,Tryz.ntmps49
 go_wp2_with fail
 refine (implMany_any wd a cap cs _ hC (by omega)).mono ?_
 rintro e x0 ⟨rfl,hb0⟩
 rw [EM.out]
 have hz0:=hb0.size
 simp at hz0
 replace g0:=keepc hb0 g0; replace g1:=keepc hb0 g1
 have hC0:=hC.below hb0
 have hB0:=bcall hbX (by simp) hb0
 clear hb0 hC hbX
 have hbA:Below x0.heap.size x0 (x0.alloc (.cells (madeCells #[.int .i64 0] M) 3)):=(Below.refl _ _).alloc (Nat.le_refl _) _
 have hrow:=row_made x0 M
 have g0a:=keepc hbA g0
 have g1a:=keepc hbA g1
 have hCA:=hC0.below hbA
 have hBA:=bcall hB0 hB0.size hbA
 clear g0 g1 hC0 hB0 hbA
 go_wp2_with fail
 obtain ⟨y0,hy0⟩:∃ y0,y0=x0.alloc (.cells (madeCells #[.int .i64 0] M) 3):=⟨_,rfl⟩
 have hgy:x0.heap.size < y0.heap.size:=by rw [hy0]; simp
 rw [<- hy0] at hrow g0a g1a hCA hBA ⊢
 clear hy0 hmk
 obtain ⟨g,hg⟩:∃ g,x0.heap.size=g:=⟨_,rfl⟩
 rw [hg] at hrow hgy hz0 ⊢
 clear hg
 refine (trailOf_any wd a cap cs _ hCA hm k).mono ?_
 rw [HL.out,HES.out]
 rintro r x1 ⟨a0,c0,a1,c1,a2,n2,c2,rfl,o0,o1,hb1⟩
 have hfld:=fieldTr1 a0 a1 a2 L.1.length c0 es.length c1 n2 c2
 have hB1:=bcall hBA hBA.size hb1
 have hrow1:=hrow.below hb1
 have hz1:=hb1.size
 have hnew:∀ b off,a1=some ⟨b,off,none⟩->¬ b=g:=fun b off e=>by
  subst e
  have:=(World.ownsRow.lt o1 b rfl).1
  omega
 obtain ⟨aX,cX,eX,hR3⟩:=row3_at o1
 simp only [Value.slice.injEq,true_and] at eX
 obtain ⟨rfl,rfl⟩:=eX
 clear hb1 o0 o1 hCA hBA hrow g0a g1a
 go_wp2_with fail
 go_loopw [16] (fun ii wr=>∃ i:Nat,i<=es.length/\ii=.int .i64 i/\RowB wr g M (fun j=>sumTo (j:Int) (es.take i))/\Off g x1 wr) (fun ii _=>es.length - (intOf ii).toNat)
 case atStart=>exact ⟨0,Nat.zero_le _,rfl,hrow1.to (fun _ _=>rfl),Off.refl _ _⟩
 case round =>
  clear hrow1
  rename World=>wo
  obtain ⟨i,hi,rfl,hrw,hof⟩:=hrel
  by_cases hlt:i < es.length
  ·rcases hR3 with q | ⟨b,off,rfl,hbl,hc⟩
   ·rw [q] at hlt; simp at hlt
   have hbg:=hnew b off rfl
   obtain ⟨t,et⟩:∃ t,es.getD i (0,0,0)=t:=⟨_,rfl⟩
   have hmem:t ∈ es:=by rw [<- et]; simp [List.getElem?_eq_getElem hlt]
   obtain ⟨z0,z1,z2⟩:=hc i hlt
   rw [et] at z0 z1 z2
   replace z0:=hof.cell hbg z0
   replace z1:=hof.cell hbg z1
   replace z2:=hof.cell hbg z2
   have hEt:=HE.out t hmem
   have hw1:=hEt.1
   have hw2:=HQ.out t hmem
   have hst:∀ j:Nat,sumTo (j:Int) (es.take (i + 1))=sumTo (j:Int) (es.take i) + (if t.1=0/\t.2.1=(j:Int) then t.2.2 else 0):=fun j=>by
    rw [take_one es i (0,0,0) hlt,sumTo_append,et]
    simp [sumTo]
   have hin:t.1=0->0<=t.2.1/\t.2.1 < (M:Int):=fun e0=>by
    rcases hEt.2 with ⟨_,q⟩ | ⟨_,q | q | q⟩
    ·rw [EM.out] at q; exact q
    ·omega
    ·omega
    ·omega
   obtain ⟨t0,t1,t2⟩:=t
   simp only at z0 z1 z2 hw1 hw2 hst hin
   have hofE:=hof.alloc (.cells #[.int .i64 t0,.int .i64 t1,.int .i64 t2] 62)
   have hrwE:=hrw.alloc (.cells #[.int .i64 t0,.int .i64 t1,.int .i64 t2] 62)
   have wi:IntKind.i64.wrap ((i:Int) + 1)=(i:Int) + 1:=IntWalk.i64_in _ (by omega)
   clear hmem et hc hEt
   by_cases e0:t0=0
   ·obtain ⟨J,hJ⟩:=Int.eq_ofNat_of_zero_le (hin e0).1
    have hJM:J < M:=by have:=(hin e0).2; omega
    subst hJ
    have hgE:g < wo.heap.size:=hrw.lt
    have y5:=hrwE.cell hJM
    have f5:=hrwE.thaw J
    have hbd:=HB.out (J:Int) i
    obtain ⟨s,hs⟩:∃ s,sumTo (J:Int) (es.take i)=s:=⟨_,rfl⟩
    rw [hs] at y5 hbd
    have ws:IntKind.i64.wrap (s + t2)=s + t2:=IntWalk.i64_in _ (by omega)
    have hset:=RowB.to (hrw.set hJM (s + t2)) (f':=fun j=>sumTo (j:Int) (es.take (i + 1))) (fun j _=>by
     rw [hst j]
     by_cases e:j=J
     ·subst e
      rw [if_pos rfl,if_pos ⟨e0,rfl⟩,hs]
     ·rw [if_neg e,if_neg (fun q=>e (by omega)),Int.add_zero])
    have hset2:=hset.alloc (.cells #[.int .i64 t0,.int .i64 (J:Int),.int .i64 t2] 62)
    have hofS:=(hof.set J (.int .i64 (s + t2))).alloc (.cells #[.int .i64 t0,.int .i64 (J:Int),.int .i64 t2] 62)
    have b0:(t0 == 0)=true:=by simp [e0]
    have hJI:(J:Int) < (M:Int):=by omega
    clear hst hs hin e0 hrw hof hrwE hofE
    go_wp2_with fail
    go_region
    go_wp2_with fail
    go_roundw
    case rel=>exact ⟨i + 1,by omega,by go_num,hset2,hofS.drew⟩
    case measure=>simp [intOf]; omega
   ·have b0:(t0 == 0)=false:=by simp [e0]
    have hrw2:=hrwE.to (f':=fun j=>sumTo (j:Int) (es.take (i + 1))) (fun j _=>by rw [hst j,if_neg (fun q=>e0 q.1),Int.add_zero])
    clear hst hin e0 hrw hof hrwE
    go_wp2_with fail
    go_roundw
    case rel=>exact ⟨i + 1,by omega,by go_num,hrw2,hofE⟩
    case measure=>simp [intOf]; omega
  ·have hfin:RowB wo g M (fun j=>toN wd cs k (j:Int)):=hrw.to (fun j _=>by rw [ER.out,List.take_of_length_le (by omega)])
   have hBo:=hof.below hB1 (by omega) (by omega)
   clear hrw
   go_wp2_with fail
   go_ret
   exact ⟨g,rfl,by omega,hfin,hBo⟩
end Sp.Sn
end Go.Proofs.YtdhopelplokehaaGreat
