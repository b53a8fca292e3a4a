/- Of the proof: PGv -/
import Derived.Test.YtmmeapmlfopleaaGreatBBm
set_option maxHeartbeats 8000000
set_option linter.unusedVariables false
namespace Go.Proofs.YtmmeapmlfopleaaGreat
namespace Sp
open Go.RowKit
attribute [local go_sem ↓] Go.wp_at_zero Go.wp_at_succ
def sumRow (es:List (Int × Int × Int)):Nat->Int
 | 0=>0
 | n + 1=>sumRow es n + sumTo (n:Int) es
theorem sumRow_nil (n:Nat):sumRow [] n=0:=by
 induction n with
 | zero=>rfl
 | succ n ih=>simp [sumRow,ih,sumTo]
theorem sumRow_cons (t:Int × Int × Int) (r:List (Int × Int × Int)) (n:Nat):sumRow (t :: r) n=(if t.1=0/\0<=t.2.1/\t.2.1 < (n:Int) then t.2.2 else 0) + sumRow r n:=by
 induction n with
 | zero=>rw [if_neg (by omega)]; rfl
 | succ n ih =>
  simp only [sumRow,sumTo]
  rw [ih]
  by_cases c:t.1=0/\t.2.1=(n:Int)
  ·have e1:t.1=0/\0<=t.2.1/\t.2.1 < ((n + 1:Nat):Int):=⟨c.1,by omega,by omega⟩
   have e2:¬ (t.1=0/\0<=t.2.1/\t.2.1 < (n:Int)):=fun q=>by omega
   rw [if_pos c,if_pos e1,if_neg e2]
   omega
  ·rw [if_neg c]
   by_cases d:t.1=0/\0<=t.2.1/\t.2.1 < (n:Int)
   ·have e1:t.1=0/\0<=t.2.1/\t.2.1 < ((n + 1:Nat):Int):=⟨d.1,d.2.1,by omega⟩
    rw [if_pos d,if_pos e1]
    omega
   ·have e1:¬ (t.1=0/\0<=t.2.1/\t.2.1 < ((n + 1:Nat):Int)):=fun q=>d ⟨q.1,q.2.1,by have h1:=q.2.2; have h2:¬ t.2.1=(n:Int):=fun e=>c ⟨q.1,e⟩; omega⟩
    rw [if_neg d,if_neg e1]
    omega
theorem sumRow_in (es:List (Int × Int × Int)) (h:∀ u ∈ es,1<=u.2.2) (n:Nat):0<=sumRow es n/\sumRow es n<=sumW es:=by
 induction es with
 | nil=>rw [sumRow_nil]; simp [sumW]
 | cons t r ih =>
  have h1:=h t (by simp)
  have h2:=ih (fun u hu=>h u (by simp [hu]))
  rw [sumRow_cons]
  simp only [sumW]
  split <;> omega
theorem row_le (wd:Int) (cs:List (Int × Int)) (k:Int) (n:Nat):0<=sumRow (trailT wd cs k).2 n/\sumRow (trailT wd cs k).2 n<=64:=by
 obtain ⟨hE,_,hs,_⟩:=ends_known (rfl:trailT wd cs k=trailT wd cs k)
 have:=sumRow_in _ (fun u hu=>(hE u hu).1) n
 omega
theorem picBack_big (a:Option Addr) (n cap:Nat) (f:Nat->Int) (w:World) (h:BytesAt w a n f) (hm:n<=cap/\cap<=9223372036854775807) (hbig:1048576 < n) :
  Calls SqP.prog 3 #[.slice a n cap] w fun e w'=>e=.returned (.bool true)/\Below w.heap.size w w':=by
 have hb:(1048576:Int) < (n:Int):=by omega
 go_enter SqP.func3,Tryz.ntmps3
 go_wp2
 go_ret
 exact ⟨rfl,Below.refl _ _⟩
set_option maxRecDepth 100000 in
theorem picBack_small (a:Option Addr) (n cap:Nat) (f:Nat->Int) (w:World) (h:BytesAt w a n f) (hm:n<=cap/\cap<=9223372036854775807) (hsm:n<=1048576) :
  Calls SqP.prog 3 #[.slice a n cap] w fun e w'=>e=.returned (.bool true)/\Below w.heap.size w w':=by
 have hb:(n:Int)<=1048576:=by omega
 go_enter SqP.func3,Tryz.ntmps3
 go_wp2_with fail
 refine (drawPicTo_any a n cap f w h hsm hm.1 hm.2).mono ?_
 rintro e w1 ⟨wd,a1,c1,cs,rfl,hC1,hl1,hb_w1⟩
 have hz_w1:=hb_w1.size
 have hbS1:Below w1.heap.size w1 (w1.alloc (.cells #[.int .i64 wd,.slice a1 cs.length c1] 25)):=bel
 replace hC1:=hC1.below hbS1
 have g0:(w1.alloc (.cells #[.int .i64 wd,.slice a1 cs.length c1] 25)).cell? ⟨w1.heap.size,0,none⟩=some (.int .i64 wd):=by simp [go_sem]
 have g1:(w1.alloc (.cells #[.int .i64 wd,.slice a1 cs.length c1] 25)).cell? ⟨w1.heap.size,1,none⟩=some (.slice a1 cs.length c1):=by simp [go_sem]
 have hBs1:=bcall hb_w1 (by omega) hbS1
 clear hb_w1 hbS1
 obtain ⟨M,hM⟩:∃ M,manyN wd cs=M:=⟨_,rfl⟩
 have hMi:=manyN_in wd cs
 rw [hM] at hMi
 have hM20:=hMi.2
 have EM:Hid (manyN wd cs=M):=hM
 have EG:Hid (manyG wd cs=(M:Int)):=hMi.1
 have HIN:Hid (∀ k:Nat,k < M->inS wd cs (k:Int)=true):=fun k hk=>by unfold inS; rw [hMi.1]; exact decide_eq_true ⟨by omega,by omega⟩
 clear hM hMi
 go_wp2_with fail
 refine (implPicTo_any wd a1 c1 cs _ hC1 (by omega)).mono ?_
 rintro e w2 ⟨a2,c2,rfl,hR2,hb_w2⟩
 rw [EM.out] at hR2 ⊢
 have hz_w2:=hb_w2.size
 simp at hz_w2
 replace g0:=keepc hb_w2 g0; replace g1:=keepc hb_w2 g1
 replace hC1:=hC1.below hb_w2
 have hB_w2:=bcall hBs1 (by first | omega | (simp; omega)) hb_w2
 clear hBs1 hb_w2
 go_wp2_with fail
 refine (specPicTo_any wd a1 c1 cs _ hC1 (by omega)).mono ?_
 rintro e w3 ⟨a3,c3,rfl,hR3,hb_w3⟩
 rw [EM.out] at hR3 ⊢
 have hz_w3:=hb_w3.size
 replace g0:=keepc hb_w3 g0; replace g1:=keepc hb_w3 g1
 replace hC1:=hC1.below hb_w3
 replace hR2:=hR2.below hb_w3
 have hB_w3:=bcall hB_w2 (by omega) hb_w3
 clear hB_w2 hb_w3
 go_wp2_with fail
 refine (llRows_same a2 a3 c2 c3 M _ _ hR2 hR3 (by omega)).mono ?_
 rintro e w4 ⟨rfl,hb_w4⟩
 have hz_w4:=hb_w4.size
 replace g0:=keepc hb_w4 g0; replace g1:=keepc hb_w4 g1
 replace hC1:=hC1.below hb_w4
 replace hR2:=hR2.below hb_w4
 have hB_w4:=bcall hB_w3 (by omega) hb_w4
 clear hB_w3 hb_w4 hR3
 go_wp2_with fail
 go_loopw [5,6,7] (fun kk _ _ wr=>∃ k:Nat,k<=M/\kk=.int .i64 k/\Below w4.heap.size w4 wr) (fun kk _ _ _=>M - (intOf kk).toNat)
 case atStart=>exact ⟨0,Nat.zero_le _,rfl,Below.refl _ _⟩
 case round =>
  rename World=>wo
  obtain ⟨k,hk,rfl,hbo⟩:=hrel
  have hzo:=hbo.size
  by_cases hlt:k < M
  ·have hltI:(k:Int) < (M:Int):=by omega
   have wk:IntKind.i64.wrap ((k:Int) + 1)=(k:Int) + 1:=IntWalk.i64_in _ (by omega)
   obtain ⟨es,hes⟩:∃ es,(trailT wd cs (k:Int)).2=es:=⟨_,rfl⟩
   have ET:Hid (∀ q,toN wd cs (k:Int) q=sumTo q es):=fun q=>by unfold toN; rw [hes]
   have HLE:Hid (∀ n,0<=sumRow es n/\sumRow es n<=64):=fun n=>by rw [<- hes]; exact row_le wd cs (k:Int) n
   clear hes
   go_wp2_with fail
   go_loopw [6,7] (fun nn ii wr=>∃ i:Nat,i<=M/\ii=.int .i64 i/\nn=.int .i64 (sumRow es i)/\Below w4.heap.size w4 wr) (fun _ ii _=>M - (intOf ii).toNat)
   case atStart=>exact ⟨0,Nat.zero_le _,rfl,rfl,hbo⟩
   case round =>
    rename World=>wz
    obtain ⟨i,hi,rfl,rfl,hbz⟩:=hrel
    have hzz:=hbz.size
    obtain ⟨s,hs⟩:∃ s,sumRow es i=s:=⟨_,rfl⟩
    have hsb:=HLE.out i
    rw [hs] at hsb ⊢
    by_cases hle:i < M
    ·have hleI:(i:Int) < (M:Int):=by omega
     have wi:IntKind.i64.wrap ((i:Int) + 1)=(i:Int) + 1:=IntWalk.i64_in _ (by omega)
     have g0z:=keepc hbz g0
     have g1z:=keepc hbz g1
     have hCz:=hC1.below hbz
     rcases hR2.below hbz with q | ⟨b,rfl,_,gf,hc⟩
     ·omega
     obtain ⟨y1,rk⟩:=hc k hlt
     obtain ⟨y2,ri⟩:=hc i hle
     have y3:=rk.cell hle
     have y4:=ri.cell hlt
     simp only at y3 y4
     rw [to_back (HIN.out i hle) (HIN.out k hlt)] at y4
     obtain ⟨gk,egk⟩:∃ g,gf k=g:=⟨_,rfl⟩
     obtain ⟨gi,egi⟩:∃ g,gf i=g:=⟨_,rfl⟩
     rw [egk] at y1 y3
     rw [egi] at y2 y4
     obtain ⟨x,hx⟩:∃ x,toN wd cs (k:Int) (i:Int)=x:=⟨_,rfl⟩
     have HX:Hid (toN wd cs (k:Int) (i:Int)=x):=hx
     rw [hx] at y3 y4
     have hs2:sumRow es (i + 1)=s + x:=by
      simp only [sumRow]
      rw [hs,<- ET.out,hx]
     have hsb2:=HLE.out (i + 1)
     rw [hs2] at hsb2
     have HS2:Hid (sumRow es (i + 1)=s + x):=hs2
     have ws:IntKind.i64.wrap (s + x)=s + x:=IntWalk.i64_in _ (by omega)
     have bn:(x != x)=false:=by simp
     clear hx hs hs2 egk egi rk ri hc hbo
     go_wp2_with fail
     refine wp_region_held_drew (S:=(fun w'=>w'.cell? ⟨w1.heap.size,0,none⟩=some (.int .i64 wd)/\w'.cell? ⟨w1.heap.size,1,none⟩=some (.slice a1 cs.length c1)/\w'.cell? ⟨b,k,none⟩=some (rowV M gk)/\w'.cell? ⟨b,i,none⟩=some (rowV M gi)/\w'.cell? ⟨gk,i,none⟩=some (.int .i64 x)/\w'.cell? ⟨gi,k,none⟩=some (.int .i64 x))) (by kernel_rfl) ?_ (fun hHeld=>?_)
     ·exact ⟨g0z,g1z,y1,y2,y3,y4⟩
     refine wpAnyH_take (i:=0) (oi:={ dst:=some 32,op:=Go.Op.move (Go.Operand.tmp 4),type:=27,pos:= "laws.go:996",after:=#[],guard:=none }) (v:=?vp0) rfl (by kernel_rfl) (by kernel_rfl) (by kernel_rfl) (fun _ _ _ h=>h) (Or.inl ⟨by rfl,?hyp0⟩) (by assumption) ?restp0
     case hyp0=>(intro w hSw; (try dsimp only at hSw); go_simp; try (with_reducible rfl))
     (try simp only [Act.put,List.setIfInBounds_toArray,List.set_cons_zero,List.set_cons_succ])
     refine wpAnyH_take (i:=1) (oi:={ dst:=some 33,op:=Go.Op.move (Go.Operand.tmp 5),type:=3,pos:= "laws.go:996",after:=#[],guard:=none }) (v:=?vp1) rfl (by kernel_rfl) (by kernel_rfl) (by kernel_rfl) (fun _ _ _ h=>h) (Or.inl ⟨by rfl,?hyp1⟩) (by assumption) ?restp1
     case hyp1=>(intro w hSw; (try dsimp only at hSw); go_simp; try (with_reducible rfl))
     (try simp only [Act.put,List.setIfInBounds_toArray,List.set_cons_zero,List.set_cons_succ])
     refine wpAnyH_take (i:=2) (oi:={ dst:=some 34,op:=Go.Op.indexAddr 27 (Go.Operand.tmp 32) (Go.Operand.tmp 33),type:=0,pos:= "laws.go:996",after:=#[{ on:=0,ground:=Go.Ground.data },{ on:=1,ground:=Go.Ground.data }],guard:=none }) (v:=?vp2) rfl (by kernel_rfl) (by kernel_rfl) (by kernel_rfl) (fun _ _ _ h=>h) (Or.inl ⟨by rfl,?hyp2⟩) (by assumption) ?restp2
     case hyp2=>(intro w hSw; (try dsimp only at hSw); go_simp; try (with_reducible rfl))
     (try simp only [Act.put,List.setIfInBounds_toArray,List.set_cons_zero,List.set_cons_succ])
     refine wpAnyH_take (i:=3) (oi:={ dst:=some 35,op:=Go.Op.load 30 (Go.Operand.tmp 34),type:=30,pos:= "laws.go:996",after:=#[{ on:=2,ground:=Go.Ground.data }],guard:=none }) (v:=?vp3) rfl (by kernel_rfl) (by kernel_rfl) (by kernel_rfl) (fun _ _ _ h=>h) (Or.inl ⟨by rfl,?hyp3⟩) (by assumption) ?restp3
     case hyp3=>(intro w hSw; (try dsimp only at hSw); go_simp; try (with_reducible rfl))
     (try simp only [Act.put,List.setIfInBounds_toArray,List.set_cons_zero,List.set_cons_succ])
     refine wpAnyH_take (i:=4) (oi:={ dst:=some 36,op:=Go.Op.move (Go.Operand.tmp 7),type:=3,pos:= "laws.go:996",after:=#[],guard:=none }) (v:=?vp4) rfl (by kernel_rfl) (by kernel_rfl) (by kernel_rfl) (fun _ _ _ h=>h) (Or.inl ⟨by rfl,?hyp4⟩) (by assumption) ?restp4
     case hyp4=>(intro w hSw; (try dsimp only at hSw); go_simp; try (with_reducible rfl))
     (try simp only [Act.put,List.setIfInBounds_toArray,List.set_cons_zero,List.set_cons_succ])
     refine wpAnyH_take (i:=5) (oi:={ dst:=some 37,op:=Go.Op.indexAddr 30 (Go.Operand.tmp 35) (Go.Operand.tmp 36),type:=0,pos:= "laws.go:996",after:=#[{ on:=3,ground:=Go.Ground.data },{ on:=4,ground:=Go.Ground.data }],guard:=none }) (v:=?vp5) rfl (by kernel_rfl) (by kernel_rfl) (by kernel_rfl) (fun _ _ _ h=>h) (Or.inl ⟨by rfl,?hyp5⟩) (by assumption) ?restp5
     case hyp5=>(intro w hSw; (try dsimp only at hSw); go_simp; try (with_reducible rfl))
     (try simp only [Act.put,List.setIfInBounds_toArray,List.set_cons_zero,List.set_cons_succ])
     refine wpAnyH_take (i:=6) (oi:={ dst:=some 38,op:=Go.Op.load 3 (Go.Operand.tmp 37),type:=3,pos:= "laws.go:996",after:=#[{ on:=5,ground:=Go.Ground.data }],guard:=none }) (v:=?vp6) rfl (by kernel_rfl) (by kernel_rfl) (by kernel_rfl) (fun _ _ _ h=>h) (Or.inl ⟨by rfl,?hyp6⟩) (by assumption) ?restp6
     case hyp6=>(intro w hSw; (try dsimp only at hSw); go_simp; try (with_reducible rfl))
     (try simp only [Act.put,List.setIfInBounds_toArray,List.set_cons_zero,List.set_cons_succ])
     refine wpAnyH_take (i:=7) (oi:={ dst:=some 39,op:=Go.Op.move (Go.Operand.tmp 4),type:=27,pos:= "laws.go:996",after:=#[],guard:=none }) (v:=?vp7) rfl (by kernel_rfl) (by kernel_rfl) (by kernel_rfl) (fun _ _ _ h=>h) (Or.inl ⟨by rfl,?hyp7⟩) (by assumption) ?restp7
     case hyp7=>(intro w hSw; (try dsimp only at hSw); go_simp; try (with_reducible rfl))
     (try simp only [Act.put,List.setIfInBounds_toArray,List.set_cons_zero,List.set_cons_succ])
     refine wpAnyH_take (i:=8) (oi:={ dst:=some 40,op:=Go.Op.move (Go.Operand.tmp 7),type:=3,pos:= "laws.go:996",after:=#[],guard:=none }) (v:=?vp8) rfl (by kernel_rfl) (by kernel_rfl) (by kernel_rfl) (fun _ _ _ h=>h) (Or.inl ⟨by rfl,?hyp8⟩) (by assumption) ?restp8
     case hyp8=>(intro w hSw; (try dsimp only at hSw); go_simp; try (with_reducible rfl))
     (try simp only [Act.put,List.setIfInBounds_toArray,List.set_cons_zero,List.set_cons_succ])
     refine wpAnyH_take (i:=9) (oi:={ dst:=some 41,op:=Go.Op.indexAddr 27 (Go.Operand.tmp 39) (Go.Operand.tmp 40),type:=0,pos:= "laws.go:996",after:=#[{ on:=7,ground:=Go.Ground.data },{ on:=8,ground:=Go.Ground.data }],guard:=none }) (v:=?vp9) rfl (by kernel_rfl) (by kernel_rfl) (by kernel_rfl) (fun _ _ _ h=>h) (Or.inl ⟨by rfl,?hyp9⟩) (by assumption) ?restp9
     case hyp9=>(intro w hSw; (try dsimp only at hSw); go_simp; try (with_reducible rfl))
     (try simp only [Act.put,List.setIfInBounds_toArray,List.set_cons_zero,List.set_cons_succ])
     refine wpAnyH_take (i:=10) (oi:={ dst:=some 42,op:=Go.Op.load 30 (Go.Operand.tmp 41),type:=30,pos:= "laws.go:996",after:=#[{ on:=9,ground:=Go.Ground.data }],guard:=none }) (v:=?vp10) rfl (by kernel_rfl) (by kernel_rfl) (by kernel_rfl) (fun _ _ _ h=>h) (Or.inl ⟨by rfl,?hyp10⟩) (by assumption) ?restp10
     case hyp10=>(intro w hSw; (try dsimp only at hSw); go_simp; try (with_reducible rfl))
     (try simp only [Act.put,List.setIfInBounds_toArray,List.set_cons_zero,List.set_cons_succ])
     refine wpAnyH_take (i:=11) (oi:={ dst:=some 43,op:=Go.Op.move (Go.Operand.tmp 5),type:=3,pos:= "laws.go:996",after:=#[],guard:=none }) (v:=?vp11) rfl (by kernel_rfl) (by kernel_rfl) (by kernel_rfl) (fun _ _ _ h=>h) (Or.inl ⟨by rfl,?hyp11⟩) (by assumption) ?restp11
     case hyp11=>(intro w hSw; (try dsimp only at hSw); go_simp; try (with_reducible rfl))
     (try simp only [Act.put,List.setIfInBounds_toArray,List.set_cons_zero,List.set_cons_succ])
     refine wpAnyH_take (i:=12) (oi:={ dst:=some 44,op:=Go.Op.indexAddr 30 (Go.Operand.tmp 42) (Go.Operand.tmp 43),type:=0,pos:= "laws.go:996",after:=#[{ on:=10,ground:=Go.Ground.data },{ on:=11,ground:=Go.Ground.data }],guard:=none }) (v:=?vp12) rfl (by kernel_rfl) (by kernel_rfl) (by kernel_rfl) (fun _ _ _ h=>h) (Or.inl ⟨by rfl,?hyp12⟩) (by assumption) ?restp12
     case hyp12=>(intro w hSw; (try dsimp only at hSw); go_simp; try (with_reducible rfl))
     (try simp only [Act.put,List.setIfInBounds_toArray,List.set_cons_zero,List.set_cons_succ])
     refine wpAnyH_take (i:=13) (oi:={ dst:=some 45,op:=Go.Op.load 3 (Go.Operand.tmp 44),type:=3,pos:= "laws.go:996",after:=#[{ on:=12,ground:=Go.Ground.data }],guard:=none }) (v:=?vp13) rfl (by kernel_rfl) (by kernel_rfl) (by kernel_rfl) (fun _ _ _ h=>h) (Or.inl ⟨by rfl,?hyp13⟩) (by assumption) ?restp13
     case hyp13=>(intro w hSw; (try dsimp only at hSw); go_simp; try (with_reducible rfl))
     (try simp only [Act.put,List.setIfInBounds_toArray,List.set_cons_zero,List.set_cons_succ])
     refine wpAnyH_take (i:=14) (oi:={ dst:=some 46,op:=Go.Op.binOp Go.BinOp.neq 3 (Go.Operand.tmp 38) (Go.Operand.tmp 45) 3,type:=4,pos:= "laws.go:996",after:=#[{ on:=6,ground:=Go.Ground.data },{ on:=13,ground:=Go.Ground.data }],guard:=none }) (v:=?vp14) rfl (by kernel_rfl) (by kernel_rfl) (by kernel_rfl) (fun _ _ _ h=>h) (Or.inl ⟨by rfl,?hyp14⟩) (by assumption) ?restp14
     case hyp14=>(intro w hSw; (try dsimp only at hSw); go_simp; try (with_reducible rfl))
     (try simp only [Act.put,List.setIfInBounds_toArray,List.set_cons_zero,List.set_cons_succ])
     refine wpAnyH_take (i:=15) (oi:={ dst:=some 47,op:=Go.Op.move (Go.Operand.tmp 46),type:=4,pos:= "laws.go:996",after:=#[{ on:=14,ground:=Go.Ground.data }],guard:=none }) (v:=?vp15) rfl (by kernel_rfl) (by kernel_rfl) (by kernel_rfl) (fun _ _ _ h=>h) (Or.inl ⟨by rfl,?hyp15⟩) (by assumption) ?restp15
     case hyp15=>(intro w hSw; (try dsimp only at hSw); go_simp; try (with_reducible rfl))
     (try simp only [Act.put,List.setIfInBounds_toArray,List.set_cons_zero,List.set_cons_succ])
     refine wpAnyH_take (i:=16) (oi:={ dst:=some 48,op:=Go.Op.move (Go.Operand.tmp 4),type:=27,pos:= "laws.go:996",after:=#[{ on:=15,ground:=Go.Ground.guard }],guard:=some (15,false) }) (v:=?vp16) rfl (by kernel_rfl) (by kernel_rfl) (by kernel_rfl) (fun _ _ _ h=>h) (Or.inl ⟨by rfl,?hyp16⟩) (by assumption) ?restp16
     case hyp16=>(intro w hSw; (try dsimp only at hSw); go_simp; try (with_reducible rfl))
     (try simp only [Act.put,List.setIfInBounds_toArray,List.set_cons_zero,List.set_cons_succ])
     refine wpAnyH_take (i:=17) (oi:={ dst:=some 49,op:=Go.Op.move (Go.Operand.tmp 5),type:=3,pos:= "laws.go:996",after:=#[{ on:=15,ground:=Go.Ground.guard }],guard:=some (15,false) }) (v:=?vp17) rfl (by kernel_rfl) (by kernel_rfl) (by kernel_rfl) (fun _ _ _ h=>h) (Or.inl ⟨by rfl,?hyp17⟩) (by assumption) ?restp17
     case hyp17=>(intro w hSw; (try dsimp only at hSw); go_simp; try (with_reducible rfl))
     (try simp only [Act.put,List.setIfInBounds_toArray,List.set_cons_zero,List.set_cons_succ])
     refine wpAnyH_take (i:=18) (oi:={ dst:=some 50,op:=Go.Op.indexAddr 27 (Go.Operand.tmp 48) (Go.Operand.tmp 49),type:=0,pos:= "laws.go:996",after:=#[{ on:=16,ground:=Go.Ground.data },{ on:=17,ground:=Go.Ground.data },{ on:=15,ground:=Go.Ground.guard }],guard:=some (15,false) }) (v:=?vp18) rfl (by kernel_rfl) (by kernel_rfl) (by kernel_rfl) (fun _ _ _ h=>h) (Or.inl ⟨by rfl,?hyp18⟩) (by assumption) ?restp18
     case hyp18=>(intro w hSw; (try dsimp only at hSw); go_simp; try (with_reducible rfl))
     (try simp only [Act.put,List.setIfInBounds_toArray,List.set_cons_zero,List.set_cons_succ])
     refine wpAnyH_take (i:=19) (oi:={ dst:=some 51,op:=Go.Op.load 30 (Go.Operand.tmp 50),type:=30,pos:= "laws.go:996",after:=#[{ on:=18,ground:=Go.Ground.data },{ on:=15,ground:=Go.Ground.guard }],guard:=some (15,false) }) (v:=?vp19) rfl (by kernel_rfl) (by kernel_rfl) (by kernel_rfl) (fun _ _ _ h=>h) (Or.inl ⟨by rfl,?hyp19⟩) (by assumption) ?restp19
     case hyp19=>(intro w hSw; (try dsimp only at hSw); go_simp; try (with_reducible rfl))
     (try simp only [Act.put,List.setIfInBounds_toArray,List.set_cons_zero,List.set_cons_succ])
     refine wpAnyH_take (i:=20) (oi:={ dst:=some 52,op:=Go.Op.move (Go.Operand.tmp 7),type:=3,pos:= "laws.go:996",after:=#[{ on:=15,ground:=Go.Ground.guard }],guard:=some (15,false) }) (v:=?vp20) rfl (by kernel_rfl) (by kernel_rfl) (by kernel_rfl) (fun _ _ _ h=>h) (Or.inl ⟨by rfl,?hyp20⟩) (by assumption) ?restp20
     case hyp20=>(intro w hSw; (try dsimp only at hSw); go_simp; try (with_reducible rfl))
     (try simp only [Act.put,List.setIfInBounds_toArray,List.set_cons_zero,List.set_cons_succ])
     refine wpAnyH_take (i:=21) (oi:={ dst:=some 53,op:=Go.Op.indexAddr 30 (Go.Operand.tmp 51) (Go.Operand.tmp 52),type:=0,pos:= "laws.go:996",after:=#[{ on:=19,ground:=Go.Ground.data },{ on:=20,ground:=Go.Ground.data },{ on:=15,ground:=Go.Ground.guard }],guard:=some (15,false) }) (v:=?vp21) rfl (by kernel_rfl) (by kernel_rfl) (by kernel_rfl) (fun _ _ _ h=>h) (Or.inl ⟨by rfl,?hyp21⟩) (by assumption) ?restp21
     case hyp21=>(intro w hSw; (try dsimp only at hSw); go_simp; try (with_reducible rfl))
     (try simp only [Act.put,List.setIfInBounds_toArray,List.set_cons_zero,List.set_cons_succ])
     refine wpAnyH_take (i:=22) (oi:={ dst:=some 54,op:=Go.Op.load 3 (Go.Operand.tmp 53),type:=3,pos:= "laws.go:996",after:=#[{ on:=21,ground:=Go.Ground.data },{ on:=15,ground:=Go.Ground.guard }],guard:=some (15,false) }) (v:=?vp22) rfl (by kernel_rfl) (by kernel_rfl) (by kernel_rfl) (fun _ _ _ h=>h) (Or.inl ⟨by rfl,?hyp22⟩) (by assumption) ?restp22
     case hyp22=>(intro w hSw; (try dsimp only at hSw); go_simp; try (with_reducible rfl))
     (try simp only [Act.put,List.setIfInBounds_toArray,List.set_cons_zero,List.set_cons_succ])
     refine wpAnyH_take (i:=23) (oi:={ dst:=some 55,op:=Go.Op.load 25 (Go.Operand.tmp 3),type:=25,pos:= "laws.go:996",after:=#[{ on:=15,ground:=Go.Ground.guard }],guard:=some (15,false) }) (v:=?vp23) rfl (by kernel_rfl) (by kernel_rfl) (by kernel_rfl) (fun _ _ _ h=>h) (Or.inl ⟨by rfl,?hyp23⟩) (by assumption) ?restp23
     case hyp23=>(intro w hSw; (try dsimp only at hSw); go_simp; try (with_reducible rfl))
     (try simp only [Act.put,List.setIfInBounds_toArray,List.set_cons_zero,List.set_cons_succ])
     refine wpAnyH_take (i:=24) (oi:={ dst:=some 56,op:=Go.Op.move (Go.Operand.tmp 5),type:=3,pos:= "laws.go:996",after:=#[{ on:=15,ground:=Go.Ground.guard }],guard:=some (15,false) }) (v:=?vp24) rfl (by kernel_rfl) (by kernel_rfl) (by kernel_rfl) (fun _ _ _ h=>h) (Or.inl ⟨by rfl,?hyp24⟩) (by assumption) ?restp24
     case hyp24=>(intro w hSw; (try dsimp only at hSw); go_simp; try (with_reducible rfl))
     (try simp only [Act.put,List.setIfInBounds_toArray,List.set_cons_zero,List.set_cons_succ])
     refine wpAnyH_take (i:=25) (oi:={ dst:=some 57,op:=Go.Op.move (Go.Operand.tmp 7),type:=3,pos:= "laws.go:996",after:=#[{ on:=15,ground:=Go.Ground.guard }],guard:=some (15,false) }) (v:=?vp25) rfl (by kernel_rfl) (by kernel_rfl) (by kernel_rfl) (fun _ _ _ h=>h) (Or.inl ⟨by rfl,?hyp25⟩) (by assumption) ?restp25
     case hyp25=>(intro w hSw; (try dsimp only at hSw); go_simp; try (with_reducible rfl))
     (try simp only [Act.put,List.setIfInBounds_toArray,List.set_cons_zero,List.set_cons_succ])
     refine wpAnyH_ready (rs:=[26]) (by kernel_rfl) (by simp) ?_
     refine AllReadyH.cons (o:={ dst:=some 58,op:=Go.Op.call { callee:=Go.Callee.value (Go.Operand.func 9),args:=#[Go.Operand.tmp 55,Go.Operand.tmp 56,Go.Operand.tmp 57],argTypes:=#[25,3,3] },type:=3,pos:= "laws.go:996",after:=#[{ on:=23,ground:=Go.Ground.data },{ on:=24,ground:=Go.Ground.data },{ on:=25,ground:=Go.Ground.data },{ on:=15,ground:=Go.Ground.chain },{ on:=15,ground:=Go.Ground.guard }],guard:=some (15,false) }) rfl (fun K hK=>?_) AllReadyH.nil
     go_simp
     (go_at_call 9; refine (implTo_any wd a1 c1 cs _ (hCz.below (by first | exact Below.refl _ _ | exact (Below.refl _ _).drew)) (by omega) (k:Int) (i:Int)).mono ?_; rintro e w7 ⟨rfl,hb7'⟩; rw [HX.out]; have hb7:Below wz.heap.size wz w7:=(by first | exact hb7' | exact bdrew hb7'))
     (try go_wp2_with fail)
     refine hK.out _ _ ?_ (fun hHeld=>?_)
     ·exact ⟨keepc hb7 g0z,keepc hb7 g1z,keepc hb7 y1,keepc hb7 y2,keepc hb7 y3,keepc hb7 y4⟩
     clear hK K
     (try simp only [Act.put,List.setIfInBounds_toArray,List.set_cons_zero,List.set_cons_succ])
     refine wpAnyH_take (i:=27) (oi:={ dst:=some 59,op:=Go.Op.binOp Go.BinOp.neq 3 (Go.Operand.tmp 54) (Go.Operand.tmp 58) 3,type:=4,pos:= "laws.go:996",after:=#[{ on:=22,ground:=Go.Ground.data },{ on:=26,ground:=Go.Ground.data },{ on:=15,ground:=Go.Ground.guard }],guard:=some (15,false) }) (v:=?vp27) rfl (by kernel_rfl) (by kernel_rfl) (by kernel_rfl) (fun _ _ _ h=>h) (Or.inl ⟨by rfl,?hyp27⟩) (by assumption) ?restp27
     case hyp27=>(intro w hSw; (try dsimp only at hSw); go_simp; try (with_reducible rfl))
     (try simp only [Act.put,List.setIfInBounds_toArray,List.set_cons_zero,List.set_cons_succ])
     refine wpAnyH_take (i:=28) (oi:={ dst:=some 60,op:=Go.Op.pick (Go.Operand.tmp 47) (Go.Operand.const (Go.Value.bool true)) (Go.Operand.tmp 59),type:=4,pos:= "laws.go:996",after:=#[{ on:=15,ground:=Go.Ground.data },{ on:=27,ground:=Go.Ground.data }],guard:=none }) (v:=?vp28) rfl (by kernel_rfl) (by kernel_rfl) (by kernel_rfl) (fun _ _ _ h=>h) (Or.inl ⟨by rfl,?hyp28⟩) (by assumption) ?restp28
     case hyp28=>(intro w hSw; (try dsimp only at hSw); go_simp; try (with_reducible rfl))
     (try simp only [Act.put,List.setIfInBounds_toArray,List.set_cons_zero,List.set_cons_succ])
     refine wpAnyH_done (by kernel_rfl) ?_ _
     have hb8:=bcall hbz hzz hb7
     have y18:=keepc hb7 y1
     have y38:=keepc hb7 y3
     clear y1 y2 y3 y4 g0z g1z hCz
     go_wp2_with fail
     go_roundw
     case rel=>exact ⟨i + 1,by omega,by go_num,by rw [HS2.out],by first | exact hb8 | exact hb8.drew⟩
     case measure=>simp [intOf]; omega
    ·have hnl:¬ (i:Int) < (M:Int):=by omega
     have b64:decide ((64:Int) < s)=false:=decide_eq_false (by omega)
     clear hs
     go_wp2_with fail
     go_roundw
     case rel=>exact ⟨k + 1,by omega,by go_num,hbz⟩
     case measure=>simp [intOf]; omega
  ·have hnl:¬ (k:Int) < (M:Int):=by omega
   have bq:((M:Int) == (M:Int))=true:=by simp
   have g0o:=keepc hbo g0
   have g1o:=keepc hbo g1
   have hCo:=hC1.below hbo
   have hBo:=bcall hB_w4 (by omega) hbo
   go_wp2_with fail
   refine (implMany_any wd a1 c1 cs _ hCo (by omega)).mono ?_
   rintro e w7 ⟨rfl,hb7⟩
   rw [EG.out]
   have hB7:=bcall hBo (by omega) hb7
   go_wp2_with fail
   go_ret
   exact ⟨rfl,hB7⟩
theorem picBack_any (a:Option Addr) (n cap:Nat) (f:Nat->Int) (w:World) (h:BytesAt w a n f) (hm:n<=cap/\cap<=9223372036854775807) :
  Calls SqP.prog 3 #[.slice a n cap] w fun e w'=>e=.returned (.bool true)/\Below w.heap.size w w':=by
 by_cases hs:n<=1048576
 ·exact picBack_small a n cap f w h hm hs
 ·exact picBack_big a n cap f w h hm (by omega)
end Sp
end Go.Proofs.YtmmeapmlfopleaaGreat
