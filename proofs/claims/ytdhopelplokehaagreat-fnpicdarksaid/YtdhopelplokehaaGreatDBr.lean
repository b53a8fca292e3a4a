/- Of the proof: PGn -/
import Derived.Test.YtdhopelplokehaaGreatDBl
import Derived.Test.YtdhopelplokehaaGreatDBo
import Derived.Test.YtdhopelplokehaaGreatDBq
set_option maxHeartbeats 8000000
set_option linter.unusedVariables false
namespace Go.Proofs.YtdhopelplokehaaGreat
namespace Sp
open Go.RowKit
attribute [local go_sem ↓] Go.wp_at_zero Go.wp_at_succ
def wallU (_:Nat) (c:Int × Int):Int × Int:=if c.1=7 then (1,0) else c
theorem wallU_ok {wd:Int} {cs:List (Int × Int)} (n:Nat) (hok:okG wd cs=true):okG wd (updC wallU cs n)=true:=updC_ok _ _ hok fun i c hc=>by
 unfold wallU
 split
 ·decide
 ·exact hc
theorem wallU_trail {wd:Int} {cs:List (Int × Int)} {k:Int} (hk:inS wd cs k=true):trailT wd (updC wallU cs cs.length) k=wallT (trailT wd cs k):=by
 have hok:=inS_ok hk
 have hok':=wallU_ok cs.length hok
 have hl:=updC_len wallU cs cs.length
 obtain ⟨x,d,hr⟩:=inS_ray hk
 rw [trail_at hk hr,trail_at ((inS_same hok hok' hl k).trans hk) ((inRay_same hok hok' hl k).trans hr)]
 refine come_wall hok hok' hl (fun y=>?_) 707 x d 64
 unfold kd
 rw [updC_get]
 by_cases c:y.toNat < cs.length
 ·rw [if_pos c]
  unfold wallU
  split <;> rfl
 ·rw [if_neg c,List.getD_eq_getElem?_getD,List.getElem?_eq_none (by omega)]
  simp
theorem sumL_wall (cs:List (Int × Int)) (es:List (Int × Int × Int)):sumL cs (es.map toWall)=0:=by
 induction es with
 | nil=>rfl
 | cons t r ih =>
  simp only [List.map_cons,sumL]
  rw [ih,if_neg (fun q=>by unfold toWall at q; split at q <;> simp_all),Int.add_zero]
theorem sumTo_wall (q:Int) (es:List (Int × Int × Int)):sumTo q (es.map toWall)=sumTo q es:=by
 induction es with
 | nil=>rfl
 | cons t r ih =>
  simp only [List.map_cons,sumTo]
  rw [ih]
  congr 1
  unfold toWall
  by_cases c:t.1=2
  ·rw [if_pos c,if_neg (fun y=>by simp at y),if_neg (fun y=>by omega)]
  ·rw [if_neg c]
theorem picD_len (wd:Int) (cs:List (Int × Int)):(picN wd cs).length=(manyG wd cs).toNat:=by unfold picN; rw [picK_len]
theorem dark {wd:Int} {cs:List (Int × Int)} (hok:okG wd cs=true):manyG wd (updC wallU cs cs.length)=manyG wd cs/\(∀ k:Nat,k < (manyG wd cs).toNat->(picN wd (updC wallU cs cs.length)).getD k 0=0)/\∀ k j:Nat,k < (manyG wd cs).toNat->toN wd (updC wallU cs cs.length) (k:Int) (j:Int)=toN wd cs (k:Int) (j:Int):=by
 have m1:manyG wd (updC wallU cs cs.length)=manyG wd cs:=by unfold manyG; rw [wallU_ok cs.length hok,hok,updC_len]
 have hin:∀ k:Nat,k < (manyG wd cs).toNat->inS wd cs (k:Int)=true:=fun k h=>by unfold inS; exact decide_eq_true ⟨by omega,by omega⟩
 refine ⟨m1,fun k h=>?_,fun k j h=>?_⟩
 ·have e:(picN wd (updC wallU cs cs.length)).getD k 0=lightN wd (updC wallU cs cs.length) (k:Int):=by
   unfold picN picK
   rw [m1]
   simp [List.getD,h]
  rw [e]
  unfold lightN
  rw [wallU_trail (hin k h)]
  exact sumL_wall _ _
 ·unfold toN
  rw [wallU_trail (hin k h)]
  exact sumTo_wall _ _
theorem RowsAt.to {w:World} {a:Option Addr} {M:Nat} {f f':Nat->Nat->Int} (h:RowsAt w a M f) (e:∀ k j,k < M->j < M->f' k j=f k j):RowsAt w a M f':=by
 rcases h with h | ⟨b,e1,hl,gs,hc⟩
 ·exact .inl h
 ·exact .inr ⟨b,e1,hl,gs,fun k hk=>⟨(hc k hk).1,(hc k hk).2.to fun j hj=>e k j hk hj⟩⟩
theorem pic_rowD {w:World} {g:Nat} {wd:Int} {cs:List (Int × Int)} {M:Nat} (hM:manyG wd cs=(M:Int)) (h:w.heap[g]?=some (picCells wd cs M)):R1At w (some ⟨g,0,none⟩) (picN wd cs):=by
 refine .inr ⟨g,0,rfl,(Array.getElem?_eq_some_iff.1 h).1,fun i hi=>?_⟩
 have hq:picN wd cs=(List.range M).map fun (k:Nat)=>lightN wd cs (k:Int):=by unfold picN picK; rw [hM]; rfl
 rw [hq] at hi ⊢
 have hi':i < M:=by simpa using hi
 rw [Nat.zero_add,cell_of_row _ _ _ _ _ _ h]
 simp [List.getD,hi']
theorem implPicD {wd:Int} {cs:List (Int × Int)} {ps:List Int} (hv:picN wd cs=ps) (a:Option Addr) (cap:Nat) (w:World) (h:CellsAt w a cs) (hm:cs.length < 4611686018427387904) (m n:Nat) (hm2:cs.length=m) (hn:ps.length=n) :
  Calls SqP.prog 12 #[.agg #[.int .i64 wd,.slice a m cap]] w fun e w'=>∃ a2 c2,e=.returned (.slice a2 n c2)/\R1At w' a2 ps/\(∀ b off,a2=some ⟨b,off,none⟩->w.heap.size<=b)/\Below w.heap.size w w':=by
 subst hv; subst hn; subst hm2
 rcases hk:okG wd cs with _ | _
 ·have e:picN wd cs=[]:=by unfold picN; rw [manyG_bad hk]; rfl
  rw [e]
  exact (picNo_any wd a cap cs w h hm hk).mono fun e w' h=>⟨none,0,h.1,.inl rfl,fun _ _ q=>by simp at q,h.2⟩
 ·obtain ⟨W,H,rfl,h1,h2,h3,h4,el,hH,hHI⟩:=okG_nat wd cs hk
  have hM:manyG (W:Int) cs=((2 * (W + H):Nat):Int):=by rw [manyG_ok hk hHI]; omega
  have hl:(picN (W:Int) cs).length=2 * (W + H):=by rw [picD_len,hM]; rfl
  refine (picYes_any (W:Int) a cap cs w h hk (2 * (W + H)) hM).mono ?_
  rintro r w' ⟨g,rfl,hg,hgc,hb⟩
  refine ⟨_,_,by rw [hl],pic_rowD hM hgc,fun b off q=>?_,hb⟩
  simp only [Option.some.injEq,Addr.mk.injEq,and_true] at q
  omega
theorem implToD {wd:Int} {cs:List (Int × Int)} {M:Nat} (hM:manyN wd cs=M) (a:Option Addr) (cap:Nat) (w:World) (h:CellsAt w a cs) (hm:cs.length < 4611686018427387904) (m:Nat) (hm2:cs.length=m) :
  Calls SqP.prog 22 #[.agg #[.int .i64 wd,.slice a m cap]] w fun e w'=>∃ a2 c2,e=.returned (.slice a2 M c2)/\RowsAt w' a2 M (fun k j=>toN wd cs (k:Int) (j:Int))/\Below w.heap.size w w':=by
 subst hM; subst hm2
 exact implPicTo_any wd a cap cs w h hm
theorem picDark_big (a:Option Addr) (n cap:Nat) (f:Nat->Int) (w:World) (h:BytesAt w a n f) (hm:n<=cap/\cap<=9223372036854775807) (hbig:1048576 < n) :
  Calls SqP.prog 5 #[.slice a n cap] w fun e w'=>e=.returned (.bool true)/\Below w.heap.size w w':=by
 have hb:(1048576:Int) < (n:Int):=by omega
 go_enter SqP.func5,Tryz.ntmps5
 go_wp2
 go_ret
 exact ⟨rfl,Below.refl _ _⟩
set_option maxRecDepth 100000 in
theorem picDark_small (a:Option Addr) (n cap:Nat) (f:Nat->Int) (w:World) (h:BytesAt w a n f) (hm:n<=cap/\cap<=9223372036854775807) (hsm:n<=1048576) :
  Calls SqP.prog 5 #[.slice a n cap] w fun e w'=>e=.returned (.bool true)/\Below w.heap.size w w':=by
 have hb:(n:Int)<=1048576:=by omega
 go_enter SqP.func5,Tryz.ntmps5
 go_wp2_with fail
 refine (drawPicTo_any a n cap f w h hsm hm.1 hm.2).mono ?_
 rintro e w1 ⟨wd,a1,c1,cs,rfl,hC1,hl1,hb_w1⟩
 have hz_w1:=hb_w1.size
 have hbS1:Below w1.heap.size w1 (w1.alloc (.cells #[.int .i64 wd,.slice a1 cs.length c1] 25)):=bel
 replace hC1:=hC1.below hbS1
 have g0:(w1.alloc (.cells #[.int .i64 wd,.slice a1 cs.length c1] 25)).cell? ⟨w1.heap.size,0,none⟩=some (.int .i64 wd):=by simp [go_sem]
 have g1:(w1.alloc (.cells #[.int .i64 wd,.slice a1 cs.length c1] 25)).cell? ⟨w1.heap.size,1,none⟩=some (.slice a1 cs.length c1):=by simp [go_sem]
 have hBs1:=bcall hb_w1 (by omega) hbS1
 clear hb_w1 hbS1
 obtain ⟨M,hM⟩:∃ M,manyN wd cs=M:=⟨_,rfl⟩
 have hMi:=manyN_in wd cs
 rw [hM] at hMi
 have hM20:=hMi.2
 have EM:Hid (manyN wd cs=M):=hM
 have EG:Hid (manyG wd cs=(M:Int)):=hMi.1
 have HIN:Hid (∀ k:Nat,k < M->inS wd cs (k:Int)=true):=fun k hk=>by unfold inS; rw [hMi.1]; exact decide_eq_true ⟨by omega,by omega⟩
 clear hM hMi
 go_wp2_with fail
 refine (implPicTo_any wd a1 c1 cs _ hC1 (by omega)).mono ?_
 rintro e w2 ⟨a2,c2,rfl,hR2,hb_w2⟩
 rw [EM.out] at hR2 ⊢
 have hz_w2:=hb_w2.size
 simp at hz_w2
 replace g0:=keepc hb_w2 g0; replace g1:=keepc hb_w2 g1
 replace hC1:=hC1.below hb_w2
 have hB_w2:=bcall hBs1 (by first | omega | (simp; omega)) hb_w2
 clear hBs1 hb_w2
 go_wp2_with fail
 refine (specPicTo_any wd a1 c1 cs _ hC1 (by omega)).mono ?_
 rintro e w3 ⟨a3,c3,rfl,hR3,hb_w3⟩
 rw [EM.out] at hR3 ⊢
 have hz_w3:=hb_w3.size
 replace g0:=keepc hb_w3 g0; replace g1:=keepc hb_w3 g1
 replace hC1:=hC1.below hb_w3
 replace hR2:=hR2.below hb_w3
 have hB_w3:=bcall hB_w2 (by omega) hb_w3
 clear hB_w2 hb_w3
 go_wp2_with fail
 refine (llRows_same a2 a3 c2 c3 M _ _ hR2 hR3 (by omega)).mono ?_
 rintro e w4 ⟨rfl,hb_w4⟩
 have hz_w4:=hb_w4.size
 replace g0:=keepc hb_w4 g0; replace g1:=keepc hb_w4 g1
 replace hC1:=hC1.below hb_w4
 replace hR2:=hR2.below hb_w4
 have hB_w4:=bcall hB_w3 (by omega) hb_w4
 clear hB_w3 hb_w4 hR3
 by_cases hM0:M=0
 ·have hMI:(M:Int)=0:=by omega
  have bM:((M:Int) == 0)=true:=by simp [hM0]
  clear hM0
  go_wp2_with fail
  refine (specPicTo_any wd a1 c1 cs _ hC1 (by omega)).mono ?_
  rintro e w5 ⟨a5,c5,rfl,hR5,hb_w5⟩
  rw [EM.out] at hR5 ⊢
  replace hR2:=hR2.below hb_w5
  have hB_w5:=bcall hB_w4 (by omega) hb_w5
  go_wp2_with fail
  refine (llRows_same a2 a5 c2 c5 M _ _ hR2 hR5 (by omega)).mono ?_
  rintro e w6 ⟨rfl,hb_w6⟩
  have hB_w6:=bcall hB_w5 (by have:=hb_w5.size; omega) hb_w6
  go_wp2_with fail
  go_ret
  exact ⟨rfl,hB_w6⟩
 ·have bM:((M:Int) == 0)=false:=by simp [hM0]
  have hok:okG wd cs=true:=by
   rcases hk:okG wd cs with _ | _
   ·have:=EG.out; rw [manyG_bad hk] at this; omega
   ·rfl
  obtain ⟨dk1,dk2,dk3⟩:=dark hok
  have hMt:(manyG wd cs).toNat=M:=by rw [EG.out]; rfl
  rw [hMt] at dk2 dk3
  obtain ⟨os,hos⟩:∃ os,picN wd (updC wallU cs cs.length)=os:=⟨_,rfl⟩
  have hol:os.length=M:=by rw [<- hos,picD_len,dk1,hMt]
  rw [hos] at dk2
  have EO:Hid (picN wd (updC wallU cs cs.length)=os):=hos
  have LO:Hid (os.length=M):=hol
  have HD:Hid (∀ k:Nat,k < M->os.getD k 0=0):=dk2
  have HT:Hid (∀ k j:Nat,k < M->toN wd (updC wallU cs cs.length) (k:Int) (j:Int)=toN wd cs (k:Int) (j:Int)):=dk3
  have EM2:Hid (manyN wd (updC wallU cs cs.length)=M):=by show _=_; unfold manyN; rw [dk1,hMt]
  have L1:0 < cs.length:=by
   have:=okG_lenD wd cs hok
   omega
  clear dk1 dk2 dk3 hos hol hMt hok hM0
  have g04:=g0
  have g14:=g1
  have hC4:=hC1
  have hR4:=hR2
  obtain ⟨i0,hi,iz0,iz1,iz2⟩:=info_parts infoCell
  have hCa:=hC1
  rcases hC1 with q | ⟨b1,of1,rfl,hlb1,hc1⟩
  ·rw [q] at L1; simp at L1
  have src1:=srcX_of hc1
  have E1:=own_emptyX w4 w4.heap.size (Nat.le_refl _)
  have B1:Below w4.heap.size w4 (w4.alloc (.cells #[] 38)):=bel
  have E3:=E1.alloc (.cells #[.int .i64 0,.slice none 0 0] 25)
  have B3:Below w4.heap.size w4 ((w4.alloc (.cells #[] 38)).alloc (.cells #[.int .i64 0,.slice none 0 0] 25)):=bel
  have E4:=own_emptyX (w4.alloc (.cells #[.int .i64 0,.slice none 0 0] 25)) w4.heap.size (by simp)
  simp only [World.size_alloc] at E4
  have B4:Below w4.heap.size w4 ((w4.alloc (.cells #[.int .i64 0,.slice none 0 0] 25)).alloc (.cells #[] 38)):=bel
  have B5:Below w4.heap.size w4 (w4.alloc (.cells #[.int .i64 0,.slice none 0 0] 25)):=bel
  clear hc1
  go_wp2
  go_cut [5] (fun s9 wc=>∃ (blk:Nat),s9=.pointer (some ⟨blk,0,none⟩)/\BoxX wc w4.heap.size blk wd cs/\Below w4.heap.size w4 wc)
  case first =>
   go_region_held_law (fun w'=>w'.cell? ⟨w1.heap.size,0,none⟩=some (.int .i64 wd)/\w'.cell? ⟨w1.heap.size,1,none⟩=some (.slice (some ⟨b1,of1,none⟩) cs.length c1))
    (first
     | exact ⟨keepc hb6 g0,keepc hb6 g1⟩
     | exact ⟨keepc (hb6.alloc hb6.size _) g0,keepc (hb6.alloc hb6.size _) g1⟩
     | exact ⟨setc (by omega) (setc (by omega) (keepc hb6 g0)),setc (by omega) (setc (by omega) (keepc hb6 g1))⟩
     | exact ⟨keepc B1 g0,keepc B1 g1⟩
     | exact ⟨keepc B3 g0,keepc B3 g1⟩
     | exact ⟨keepc B4 g0,keepc B4 g1⟩
     | exact ⟨keepc B5 g0,keepc B5 g1⟩
     | go_keep)
    (first
     | (refine step_append_lies _ (by rfl) _ _ _ (by rfl) w4.heap.size 38 i0 (.agg #[.int .i64 0,.int .i64 0]) 2 16 SqP.underlying23 hi iz0 iz1 iz2 rfl (by omega) (.slice (some ⟨w4.heap.size,0,none⟩) 0 0) 0 [] (by rfl) (by first | exact E1 | exact E1.drew) ⟨b1,of1,none⟩ cs.length c1 (flat cs) (by rfl) (flat_len cs) (by first | exact src1.below (B1) hlb1 | exact src1.below (B1).drew hlb1) (flat_oneX cs) (by omega) (by unfold maxLen; omega) (by omega) (by first | (simp; done) | (simp; omega)) (w4.heap.size + 1) (by first | (simp; done) | (simp; omega)) ?_; intro g6 k6 v6 hO6 hg6 hat6 hlt6; have hb6:Below w4.heap.size w4 v6:=Below.grown (by first | exact (B1) | exact (B1).drew) hg6 (by first | (simp; done) | (simp; omega)) (fun k hk=>by simp [Value.ownBlock] at hk; omega); have hz6:=hg6.size; simp at hz6; have hOw:=own_firstX hO6; have zh:=hb6.size; skip)
     | (refine step_append_lies _ (by rfl) _ _ _ (by rfl) w4.heap.size 38 i0 (.agg #[.int .i64 0,.int .i64 0]) 2 16 SqP.underlying23 hi iz0 iz1 iz2 rfl (by omega) (.slice (some ⟨w4.heap.size,0,none⟩) 0 0) 0 [] (by rfl) (by first | exact E3 | exact E3.drew) ⟨b1,of1,none⟩ cs.length c1 (flat cs) (by rfl) (flat_len cs) (by first | exact src1.below (B3) hlb1 | exact src1.below (B3).drew hlb1) (flat_oneX cs) (by omega) (by unfold maxLen; omega) (by omega) (by first | (simp; done) | (simp; omega)) (w4.heap.size + 1 + 1) (by first | (simp; done) | (simp; omega)) ?_; intro g6 k6 v6 hO6 hg6 hat6 hlt6; have hb6:Below w4.heap.size w4 v6:=Below.grown (by first | exact (B3) | exact (B3).drew) hg6 (by first | (simp; done) | (simp; omega)) (fun k hk=>by simp [Value.ownBlock] at hk; omega); have hz6:=hg6.size; simp at hz6; have hOw:=own_firstX hO6; have zh:=hb6.size; have z0:v6.cell? ⟨w4.heap.size + 1,0,none⟩=some (.int .i64 0):=gcell (rb:=w4.heap.size) hg6 (by omega) (by simp [go_sem]); have z1:v6.cell? ⟨w4.heap.size + 1,1,none⟩=some (.slice none 0 0):=gcell (rb:=w4.heap.size) hg6 (by omega) (by simp [go_sem]); have zf0:v6.frozen? ⟨w4.heap.size + 1,0,none⟩=false:=gfroz (rb:=w4.heap.size) hg6 (by omega) (v:=.int .i64 0) (by simp [go_sem]) (by simp [go_sem]); have zf1:v6.frozen? ⟨w4.heap.size + 1,1,none⟩=false:=gfroz (rb:=w4.heap.size) hg6 (by omega) (v:=.slice none 0 0) (by simp [go_sem]) (by simp [go_sem]); have zb7:g6 ≠ w4.heap.size + 1:=(by rcases hat6 with q | q; (simp [Value.ownBlock] at q; omega); omega))
     | (refine step_append_lies _ (by rfl) _ _ _ (by rfl) w4.heap.size 38 i0 (.agg #[.int .i64 0,.int .i64 0]) 2 16 SqP.underlying23 hi iz0 iz1 iz2 rfl (by omega) (.slice (some ⟨w4.heap.size + 1,0,none⟩) 0 0) 0 [] (by rfl) (by first | exact E4 | exact E4.drew) ⟨b1,of1,none⟩ cs.length c1 (flat cs) (by rfl) (flat_len cs) (by first | exact src1.below (B4) hlb1 | exact src1.below (B4).drew hlb1) (flat_oneX cs) (by omega) (by unfold maxLen; omega) (by omega) (by first | (simp; done) | (simp; omega)) (w4.heap.size + 1 + 1) (by first | (simp; done) | (simp; omega)) ?_; intro g6 k6 v6 hO6 hg6 hat6 hlt6; have hb6:Below w4.heap.size w4 v6:=Below.grown (by first | exact (B4) | exact (B4).drew) hg6 (by first | (simp; done) | (simp; omega)) (fun k hk=>by simp [Value.ownBlock] at hk; omega); have hz6:=hg6.size; simp at hz6; have hOw:=own_firstX hO6; have zh:=hb6.size; have z0:v6.cell? ⟨w4.heap.size,0,none⟩=some (.int .i64 0):=gcell (rb:=w4.heap.size + 1) hg6 (by omega) (by simp [go_sem]); have z1:v6.cell? ⟨w4.heap.size,1,none⟩=some (.slice none 0 0):=gcell (rb:=w4.heap.size + 1) hg6 (by omega) (by simp [go_sem]); have zf0:v6.frozen? ⟨w4.heap.size,0,none⟩=false:=gfroz (rb:=w4.heap.size + 1) hg6 (by omega) (v:=.int .i64 0) (by simp [go_sem]) (by simp [go_sem]); have zf1:v6.frozen? ⟨w4.heap.size,1,none⟩=false:=gfroz (rb:=w4.heap.size + 1) hg6 (by omega) (v:=.slice none 0 0) (by simp [go_sem]) (by simp [go_sem]); have zb8:g6 ≠ w4.heap.size:=(by rcases hat6 with q | q; (simp [Value.ownBlock] at q; omega); omega))
     | fail)
   all_goals
    first
     | (have hbox:=boxX_new hb6 hOw wd
        go_wp2_with fail
        go_meet
        case rel=>exact ⟨_,rfl,hbox⟩)
     | (have hbox:=boxX_set hb6 (by omega) hOw zb7 z0 z1 wd
        go_wp2_with fail
        go_meet
        case rel=>exact ⟨_,rfl,hbox⟩)
     | (have hbox:=boxX_set hb6 (by omega) hOw zb8 z0 z1 wd
        go_wp2_with fail
        go_meet
        case rel=>exact ⟨_,rfl,hbox⟩)
  case rest =>
   rename World=>w6
   obtain ⟨blk,rfl,⟨gx,cx,hblk,x0,x1,hOx,hgb,hgx⟩,hb9⟩:=hcut
   replace g0:=keepc hb9 g0; replace g1:=keepc hb9 g1
   have hz9:=hb9.size
   clear src1 E1 B1 E3 B3 E4 B4 B5 hR2 hCa
   go_wp2_with fail
   go_loopw [6] (fun ii wr=>∃ i:Nat,i<=cs.length/\ii=.int .i64 i/\Own wr w4.heap.size (.slice (some ⟨gx,0,none⟩) cs.length cx) (updC wallU cs i)/\wr.cell? ⟨blk,0,none⟩=some (.int .i64 wd)/\wr.cell? ⟨blk,1,none⟩=some (.slice (some ⟨gx,0,none⟩) cs.length cx)/\Below w4.heap.size w4 wr) (fun ii _=>cs.length - (intOf ii).toNat)
   case atStart=>exact ⟨0,Nat.zero_le _,rfl,by rw [updC_zero]; exact hOx,x0,x1,hb9⟩
   case round =>
    clear hOx x0 x1 hb9 hz9 g0 g1
    rename World=>wo
    obtain ⟨i,hii,rfl,hO,x0',x1',hbo⟩:=hrel
    by_cases hlt:i < cs.length
    ·have hltI:(i:Int) < (cs.length:Int):=by omega
     obtain ⟨z0,z1,f0,f1⟩:=hO.cell (updC_len _ _ _) i hlt
     have hst:=hO.set (updC_len _ _ _) i 1 0 hlt
     rw [updC_at _ _ _ hlt,if_neg (Nat.lt_irrefl i)] at z0 z1
     obtain ⟨c,ec⟩:∃ c,cs.getD i (0,0)=c:=⟨_,rfl⟩
     rw [ec] at z0 z1
     by_cases h7:c.1=7
     ·have hp:(updC wallU cs i).set i (1,0)=updC wallU cs (i + 1):=by
       rw [<- updC_set wallU cs hlt,ec]
       unfold wallU
       rw [if_pos h7]
      rw [hp] at hst
      rw [h7] at z0
      clear ec h7 hp hO
      go_wp2_with fail
      go_roundw
      case rel=>exact ⟨i + 1,by omega,by go_num,hst,setc (fun e=>hgb e.symm) (setc (fun e=>hgb e.symm) x0'),setc (fun e=>hgb e.symm) (setc (fun e=>hgb e.symm) x1'),(hbo.setCell (p:=⟨gx,_,none⟩) (by show w4.heap.size<=gx; omega) _).setCell (p:=⟨gx,_,none⟩) (by show w4.heap.size<=gx; omega) _⟩
      case measure=>simp [intOf]; omega
     ·have hp:updC wallU cs i=updC wallU cs (i + 1):=updC_same wallU cs hlt (by rw [ec]; unfold wallU; rw [if_neg h7])
      rw [hp] at hO
      have b7:(c.1 == 7)=false:=by simp [h7]
      clear hst ec h7 hp z1 f0 f1
      go_wp2_with fail
      go_roundw
      case rel=>exact ⟨i + 1,by omega,by go_num,hO,x0',x1',hbo⟩
      case measure=>simp [intOf]; omega
    ·have hic:i=cs.length:=by omega
     subst hic
     have hnl:¬ (cs.length:Int) < (cs.length:Int):=by omega
     have hCx:CellsAt wo (some ⟨gx,0,none⟩) (updC wallU cs cs.length):=own_cellsD (cap:=cx) (by rw [updC_len]; exact hO)
     have hlx:(updC wallU cs cs.length).length < 4611686018427387904:=by rw [updC_len]; omega
     have hRo:=hR4.below hbo
     have hBo:=bcall hB_w4 hB_w4.size hbo
     clear hO hbo
     go_wp2_with fail
     refine (implPicD EO.out (some ⟨gx,0,none⟩) cx _ hCx hlx cs.length M (updC_len _ _ _) LO.out).mono ?_
     rintro e wa ⟨aa,ca,rfl,hRa,_,hba⟩
     have y0:=keepc hba x0'
     have y1:=keepc hba x1'
     have hRo2:=hRo.below hba
     have hCx2:=hCx.below hba
     have hBa:=bcall hBo hBo.size hba
     clear hba hRo hCx hBo x0' x1'
     go_wp2_with fail
     go_loopw [8] (fun kk wr=>∃ k:Nat,k<=M/\kk=.int .i64 k/\Below wa.heap.size wa wr) (fun kk _=>M - (intOf kk).toNat)
     case atStart=>exact ⟨0,Nat.zero_le _,rfl,Below.refl _ _⟩
     case round =>
      rename World=>wp
      obtain ⟨k,hk,rfl,hbp⟩:=hrel
      by_cases hlt:k < M
      ·have hltI:(k:Int) < (M:Int):=by omega
       have wk:IntKind.i64.wrap ((k:Int) + 1)=(k:Int) + 1:=IntWalk.i64_in _ (by omega)
       obtain ⟨b3,o3,rfl,_,q3⟩:=(hRa.below hbp).at (show k < os.length by rw [LO.out]; exact hlt)
       rw [HD.out k hlt] at q3
       go_wp2_with fail
       go_roundw
       case rel=>exact ⟨k + 1,by omega,by go_num,hbp⟩
       case measure=>simp [intOf]; omega
      ·have hnk:¬ (k:Int) < (M:Int):=by omega
       have y0p:=keepc hbp y0
       have y1p:=keepc hbp y1
       have hRp:=hRo2.below hbp
       have hCp:=hCx2.below hbp
       have hBp:=bcall hBa hBa.size hbp
       clear y0 y1 hRo2 hCx2 hBa hbp hRa
       go_wp2_with fail
       refine (implToD EM2.out (some ⟨gx,0,none⟩) cx _ hCp hlx cs.length (updC_len _ _ _)).mono ?_
       rintro e wc ⟨ac,cc,rfl,hRc,hbc⟩
       have hRc2:=RowsAt.to hRc (f':=fun k j=>toN wd cs (k:Int) (j:Int)) (fun k j h1 _=>(HT.out k j h1).symm)
       have hRp2:=hRp.below hbc
       have hBc:=bcall hBp hBp.size hbc
       go_wp2_with fail
       refine (llRows_same ac a2 cc c2 M _ _ hRc2 hRp2 (by omega)).mono ?_
       rintro e w9 ⟨rfl,hb_w9⟩
       have hB9:=bcall hBc hBc.size hb_w9
       go_wp2_with fail
       go_ret
       exact ⟨rfl,hB9⟩
theorem picDark_any (a:Option Addr) (n cap:Nat) (f:Nat->Int) (w:World) (h:BytesAt w a n f) (hm:n<=cap/\cap<=9223372036854775807) :
  Calls SqP.prog 5 #[.slice a n cap] w fun e w'=>e=.returned (.bool true)/\Below w.heap.size w w':=by
 by_cases hs:n<=1048576
 ·exact picDark_small a n cap f w h hm hs
 ·exact picDark_big a n cap f w h hm (by omega)
end Sp
end Go.Proofs.YtdhopelplokehaaGreat
