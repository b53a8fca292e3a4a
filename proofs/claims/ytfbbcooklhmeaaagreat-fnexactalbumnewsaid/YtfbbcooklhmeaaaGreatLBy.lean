/- Of the proof: PKm, PBb -/
import Derived.Laws.OwnMore
import Derived.Test.YtfbbcooklhmeaaaGreatLBx
set_option maxHeartbeats 1000000
set_option linter.unusedVariables false
namespace Go.Proofs.YtfbbcooklhmeaaaGreat
variable {wd:Int} {cs:List (Int × Int)} {M N:Nat} {l:Nat->Int} {cp n:Nat->Nat} {f:Nat->Nat->Int} {ad ad2:Nat->Option Addr} {fa ga la na pa:Option Addr} {w:World}
namespace Sp
variable {aLt:Nat->Func->Func}
open Go.RowKit
set_option linter.unusedSimpArgs false
theorem zdi (k0:Int) (a:Option Addr) (cap:Nat) (w:World) :
  Calls (SqG.prog aLt) 22 #[.slice a 0 cap,.int .i64 k0] w fun e w'=>e=.returned (.int .i64 k0)/\w'=w:=by
 go_enter SqG.func22,Tryz.ntmps22
 go_wp2
 go_loop [1,5] (fun v i=>v=.int .i64 k0/\i=.int .i64 0) (fun _ _=>0)
 case atStart=>exact ⟨rfl,rfl⟩
 case round =>
  obtain ⟨rfl,rfl⟩:=hrel
  go_wp2
  go_ret
  exact ⟨rfl,rfl⟩
theorem zdg (k0:Int) (a:Option Addr) (cap:Nat) (w:World) :
  Calls (SqG.prog aLt) 24 #[.slice a 0 cap,.int .i64 k0] w fun e w'=>e=.returned (.int .i64 k0)/\w'=w:=by
 go_enter SqG.func24,Tryz.ntmps24
 go_wp2
 go_loop [1,5] (fun v i=>v=.int .i64 k0/\i=.int .i64 0) (fun _ _=>0)
 case atStart=>exact ⟨rfl,rfl⟩
 case round =>
  obtain ⟨rfl,rfl⟩:=hrel
  go_wp2
  go_ret
  exact ⟨rfl,rfl⟩
theorem zeo (a a2:Option Addr) (c c2:Nat) (w:World) :
  Calls (SqG.prog aLt) 18 #[.slice a 0 c,.slice a2 0 c2] w fun e w'=>e=.returned (.bool true)/\w'=w:=by
 go_enter SqG.func18,Tryz.ntmps18
 go_wp2
 go_loop [5] (fun i=>i=.int .i64 0) (fun _=>0)
 case atStart=>exact rfl
 case round =>
  obtain rfl:=hrel
  go_wp2
  go_ret
  exact ⟨rfl,rfl⟩
end Sp
namespace Sp
open Go.RowKit
attribute [local go_sem ↓] Go.wp_at_zero Go.wp_at_succ
theorem zqv {b:Nat} {v0 v1 v2 v3 v4 v5:Value} {t:TypeId} (h:w.heap[b]?=some (.cells #[v0,v1,v2,v3,v4,v5] t)):w.cell? ⟨b,0,none⟩=some v0/\w.cell? ⟨b,1,none⟩=some v1/\w.cell? ⟨b,2,none⟩=some v2/\w.cell? ⟨b,3,none⟩=some v3/\w.cell? ⟨b,4,none⟩=some v4/\w.cell? ⟨b,5,none⟩=some v5 :=
 ⟨(cell_of_row _ _ 0 _ _ _ h).trans rfl,(cell_of_row _ _ 1 _ _ _ h).trans rfl,(cell_of_row _ _ 2 _ _ _ h).trans rfl,(cell_of_row _ _ 3 _ _ _ h).trans rfl,(cell_of_row _ _ 4 _ _ _ h).trans rfl,(cell_of_row _ _ 5 _ _ _ h).trans rfl⟩
theorem zrw (w:World) (v0 v1 v2 v3 v4 v5:Value) (t:TypeId):(w.alloc (.cells #[v0,v1,v2,v3,v4,v5] t)).cell? ⟨w.heap.size,0,none⟩=some v0/\(w.alloc (.cells #[v0,v1,v2,v3,v4,v5] t)).cell? ⟨w.heap.size,1,none⟩=some v1/\(w.alloc (.cells #[v0,v1,v2,v3,v4,v5] t)).cell? ⟨w.heap.size,2,none⟩=some v2/\(w.alloc (.cells #[v0,v1,v2,v3,v4,v5] t)).cell? ⟨w.heap.size,3,none⟩=some v3/\(w.alloc (.cells #[v0,v1,v2,v3,v4,v5] t)).cell? ⟨w.heap.size,4,none⟩=some v4/\(w.alloc (.cells #[v0,v1,v2,v3,v4,v5] t)).cell? ⟨w.heap.size,5,none⟩=some v5:=by
 refine ⟨?_,?_,?_,?_,?_,?_⟩ <;> simp [go_sem]
theorem zrp {ga2 la2 fa2 pa2 na2:Option Addr} {gc lc fc gc2 lc2 fc2 pc pc2 nc nc2 B hi B2 hi2:Nat} {cp2:Nat->Nat} (h:Sn w B hi N cs M l n f ga la fa gc ad cp) (h2:Sn w B2 hi2 N cs M l n f ga2 la2 fa2 gc2 ad2 cp2) (hN:cs.length=N) (hm:N<=25) (hM:M<=20) (hn:∀ k,k < M->n k<=1000) :
  Calls SqP.prog 8 #[.agg #[.int .i64 wd,.slice ga N gc,.slice la M lc,.slice fa M fc,.slice pa 0 pc,.slice na 0 nc],.agg #[.int .i64 wd,.slice ga2 N gc2,.slice la2 M lc2,.slice fa2 M fc2,.slice pa2 0 pc2,.slice na2 0 nc2]] w fun e w'=>e=.returned (.bool true)/\Below w.heap.size w w':=by
 obtain ⟨w2,hw2⟩:∃ w2,w2=(w.alloc (.cells #[.int .i64 wd,.slice ga N gc,.slice la M lc,.slice fa M fc,.slice pa 0 pc,.slice na 0 nc] 35)).alloc (.cells #[.int .i64 wd,.slice ga2 N gc2,.slice la2 M lc2,.slice fa2 M fc2,.slice pa2 0 pc2,.slice na2 0 nc2] 35):=⟨_,rfl⟩
 have H2:Hid (zbO w w2 [(w.heap.size + 1,.cells #[.int .i64 wd,.slice ga2 N gc2,.slice la2 M lc2,.slice fa2 M fc2,.slice pa2 0 pc2,.slice na2 0 nc2] 35),(w.heap.size,.cells #[.int .i64 wd,.slice ga N gc,.slice la M lc,.slice fa M fc,.slice pa 0 pc,.slice na 0 nc] 35)]):=by rw [hw2]; exact zha _ _ w
 have HS:Hid (Calls SqP.prog 17 #[.agg #[.int .i64 wd,.slice ga N gc,.slice la M lc,.slice fa M fc],.agg #[.int .i64 wd,.slice ga2 N gc2,.slice la2 M lc2,.slice fa2 M fc2]] w2 fun e w'=>e=.returned (.bool true)/\Below w2.heap.size w2 w'):=zrD (h.below H2.out.below) (h2.below H2.out.below) hN hm hM hn
 clear h h2 hN
 go_enter SqP.func8,Tryz.ntmps8
 go_upto_region 1 with fail
 rw [<- hw2]
 clear hw2
 obtain ⟨c0,c1,c2,c3,c4,c5⟩:=zqv (H2.out.lies (w.heap.size,.cells #[.int .i64 wd,.slice ga N gc,.slice la M lc,.slice fa M fc,.slice pa 0 pc,.slice na 0 nc] 35) (by simp)).1
 obtain ⟨d0,d1,d2,d3,d4,d5⟩:=zqv (H2.out.lies (w.heap.size + 1,.cells #[.int .i64 wd,.slice ga2 N gc2,.slice la2 M lc2,.slice fa2 M fc2,.slice pa2 0 pc2,.slice na2 0 nc2] 35) (by simp)).1
 go_wp2_with fail
 refine HS.out.mono ?_
 rintro e w3 ⟨rfl,hb⟩
 have H3:=H2.out.on hb
 replace c4:=zab hb c4; replace c5:=zab hb c5; replace d4:=zab hb d4; replace d5:=zab hb d5
 clear hb c0 c1 c2 c3 d0 d1 d2 d3 HS
 go_wp2_with fail
 refine (zeo _ _ _ _ _).mono ?_
 rintro e w4 ⟨rfl,rfl⟩
 go_wp2_with fail
 refine (zeo _ _ _ _ _).mono ?_
 rintro e w4 ⟨rfl,rfl⟩
 go_wp2_with fail
 go_ret
 exact ⟨rfl,H3.below⟩
theorem zqK {gc lc fc pc nc B hi:Nat} (h:Sn w B hi N cs M l n f ga la fa gc ad cp) (hN:cs.length=N) (hm:N<=25) (hM:M<=20) (hn:∀ k,k < M->n k<=1000) {k1 k2 k3:Int} (e1:k1=1 + 2 * (N:Int)) (e2:k2=k1 + 1 * (M:Int)) (e3:k3=k2 + (zb1 n M:Int)) :
  Calls SqP.prog 11 #[.agg #[.int .i64 wd,.slice ga N gc,.slice la M lc,.slice fa M fc,.slice pa 0 pc,.slice na 0 nc],.int .i64 1] w fun e w'=>e=.returned (.int .i64 k3)/\Sn w' B hi N (marks 1 N) M (fun j=>k1 + (j:Int)) n (fun k j=>k2 + (zb1 n k:Int) + (j:Int)) ga la fa gc ad cp/\zbn (fun e=>B<=e/\e < hi) w w':=by
 obtain ⟨w2,hw2⟩:∃ w2,w2=w.alloc (.cells #[.int .i64 wd,.slice ga N gc,.slice la M lc,.slice fa M fc,.slice pa 0 pc,.slice na 0 nc] 35):=⟨_,rfl⟩
 have H2:Hid (zbO w w2 [(w.heap.size,.cells #[.int .i64 wd,.slice ga N gc,.slice la M lc,.slice fa M fc,.slice pa 0 pc,.slice na 0 nc] 35)]):=by
  rw [hw2]
  have h1:zbO w w []:=⟨Below.refl _ _,(fun _ h=>nomatch h),List.nodup_nil⟩
  exact h1.made _
 have ht:=h.top
 have HS:Hid (Calls SqP.prog 21 #[.agg #[.int .i64 wd,.slice ga N gc,.slice la M lc,.slice fa M fc],.int .i64 1] w2 fun e w'=>e=.returned (.int .i64 k3)/\Sn w' B hi N (marks 1 N) M (fun j=>k1 + (j:Int)) n (fun k j=>k2 + (zb1 n k:Int) + (j:Int)) ga la fa gc ad cp/\zbn (fun e=>B<=e/\e < hi) w2 w'):=zqL (h.below H2.out.below) hN hm hM hn e1 e2 e3
 clear h hN e1 e2 e3
 go_enter SqP.func11,Tryz.ntmps11
 go_upto_region 1 with fail
 rw [<- hw2]
 clear hw2
 obtain ⟨c0,c1,c2,c3,c4,c5⟩:=zqv (H2.out.lies (w.heap.size,.cells #[.int .i64 wd,.slice ga N gc,.slice la M lc,.slice fa M fc,.slice pa 0 pc,.slice na 0 nc] 35) (by simp)).1
 go_wp2_with fail
 refine HS.out.mono ?_
 rintro e w3 ⟨rfl,hQ,ho⟩
 have nn:¬ (B<=w.heap.size/\w.heap.size < hi):=by omega
 replace c4:=ho.cell nn c4
 replace c5:=ho.cell nn c5
 have HO:Hid (zbn (fun e=>B<=e/\e < hi) w w3):=(zbn.of H2.out.below).trans ho
 have HQ:Hid (Sn w3 B hi N (marks 1 N) M (fun j=>k1 + (j:Int)) n (fun k j=>k2 + (zb1 n k:Int) + (j:Int)) ga la fa gc ad cp):=hQ
 clear ho c0 c1 c2 c3 HS hQ
 go_wp2_with fail
 refine (zdi _ _ _ _).mono ?_
 rintro e w4 ⟨rfl,rfl⟩
 go_wp2_with fail
 refine (zdi _ _ _ _).mono ?_
 rintro e w4 ⟨rfl,rfl⟩
 go_wp2_with fail
 go_ret
 exact ⟨rfl,HQ.out,HO.out⟩
theorem zps {gc lc fc pc nc B hi:Nat} {k1 k2 k3:Int} (h:Sn w B hi N (marks 1 N) M (fun j=>k1 + (j:Int)) n (fun k j=>k2 + (zb1 n k:Int) + (j:Int)) ga la fa gc ad cp) (hm:N<=25) (hM:M<=20) (hn:∀ k,k < M->n k<=1000) (e1:k1=1 + 2 * (N:Int)) (e2:k2=k1 + 1 * (M:Int)) (e3:k3=k2 + (zb1 n M:Int)) :
  Calls SqP.prog 12 #[.agg #[.int .i64 wd,.slice ga N gc,.slice la M lc,.slice fa M fc,.slice pa 0 pc,.slice na 0 nc],.int .i64 1] w fun e w'=>e=.returned (.int .i64 k3)/\Below w.heap.size w w':=by
 obtain ⟨w2,hw2⟩:∃ w2,w2=w.alloc (.cells #[.int .i64 wd,.slice ga N gc,.slice la M lc,.slice fa M fc,.slice pa 0 pc,.slice na 0 nc] 35):=⟨_,rfl⟩
 have H2:Hid (zbO w w2 [(w.heap.size,.cells #[.int .i64 wd,.slice ga N gc,.slice la M lc,.slice fa M fc,.slice pa 0 pc,.slice na 0 nc] 35)]):=by
  rw [hw2]
  have h1:zbO w w []:=⟨Below.refl _ _,(fun _ h=>nomatch h),List.nodup_nil⟩
  exact h1.made _
 have b3:decide (k3 < 0)=false:=decide_eq_false (by omega)
 have HS:Hid (Calls SqP.prog 23 #[.agg #[.int .i64 wd,.slice ga N gc,.slice la M lc,.slice fa M fc],.int .i64 1] w2 fun e w'=>e=.returned (.int .i64 k3)/\Below w2.heap.size w2 w'):=zqG (h.below H2.out.below) hm hM hn e1 e2 e3
 clear h e1 e2 e3
 go_enter SqP.func12,Tryz.ntmps12
 go_upto_region 1 with fail
 rw [<- hw2]
 clear hw2
 obtain ⟨c0,c1,c2,c3,c4,c5⟩:=zqv (H2.out.lies (w.heap.size,.cells #[.int .i64 wd,.slice ga N gc,.slice la M lc,.slice fa M fc,.slice pa 0 pc,.slice na 0 nc] 35) (by simp)).1
 go_wp2_with fail
 refine HS.out.mono ?_
 rintro e w3 ⟨rfl,hb⟩
 have H3:=H2.out.on hb
 replace c4:=zab hb c4; replace c5:=zab hb c5
 clear hb c0 c1 c2 c3 HS
 go_wp2_with fail
 refine (zdg _ _ _ _).mono ?_
 rintro e w4 ⟨rfl,rfl⟩
 go_wp2_with fail
 refine (zdg _ _ _ _).mono ?_
 rintro e w4 ⟨rfl,rfl⟩
 go_wp2_with fail
 go_ret
 exact ⟨rfl,H3.below⟩
end Sp
end Go.Proofs.YtfbbcooklhmeaaaGreat
