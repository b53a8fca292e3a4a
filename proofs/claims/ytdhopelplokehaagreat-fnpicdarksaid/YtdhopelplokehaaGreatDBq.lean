/- Of the proof: PGf -/
import Derived.Test.YtdhopelplokehaaGreatDBm
import Derived.Test.YtdhopelplokehaaGreatDBn
set_option maxHeartbeats 1000000
set_option linter.unusedVariables false
namespace Go.Proofs.YtdhopelplokehaaGreat
namespace Sp
open Go.RowKit
attribute [local go_sem ↓] Go.wp_at_zero Go.wp_at_succ
def RowsAt (w:World) (a:Option Addr) (M:Nat) (f:Nat->Nat->Int):Prop:=M=0\/∃ b,a=some ⟨b,0,none⟩/\b < w.heap.size/\∃ gs:Nat->Nat,∀ k,k < M->w.cell? ⟨b,k,none⟩=some (rowV M (gs k))/\RowB w (gs k) M (f k)
theorem RowsAt.below {w w':World} {a:Option Addr} {M:Nat} {f:Nat->Nat->Int} (h:RowsAt w a M f) (hb:Below w.heap.size w w'):RowsAt w' a M f:=by
 rcases h with h | ⟨b,e,hl,gs,hc⟩
 ·exact .inl h
 ·exact .inr ⟨b,e,Nat.lt_of_lt_of_le hl hb.size,gs,fun k hk=>⟨keepc hb (hc k hk).1,(hc k hk).2.below hb⟩⟩
def manyN (wd:Int) (cs:List (Int × Int)):Nat:=(manyG wd cs).toNat
theorem manyN_in (wd:Int) (cs:List (Int × Int)):manyG wd cs=(manyN wd cs:Int)/\manyN wd cs<=20:=by
 unfold manyN
 rcases hk:okG wd cs with _ | _
 ·rw [manyG_bad hk]; decide
 ·obtain ⟨W,H,rfl,h1,h2,h3,h4,el,hH,hHI⟩:=okG_nat wd cs hk
  rw [manyG_ok hk hHI]; omega
theorem implPicTo_any (wd:Int) (a:Option Addr) (cap:Nat) (cs:List (Int × Int)) (w:World) (h:CellsAt w a cs) (hm:cs.length < 4611686018427387904) :
  Calls SqP.prog 22 #[.agg #[.int .i64 wd,.slice a cs.length cap]] w fun e w'=>∃ a2 c2,e=.returned (.slice a2 (manyN wd cs) c2)/\RowsAt w' a2 (manyN wd cs) (fun k j=>toN wd cs (k:Int) (j:Int))/\Below w.heap.size w w':=by
 rcases hk:okG wd cs with _ | _
 ·have e:manyN wd cs=0:=by unfold manyN; rw [manyG_bad hk]; rfl
  rw [e]
  exact (toNo_any wd a cap cs w h hm hk).mono fun e w' h=>⟨none,0,h.1,.inl rfl,h.2⟩
 ·refine (toYes_any wd a cap cs w h hk (manyN wd cs) (manyN_in wd cs).1).mono ?_
  rintro e w' ⟨g,gs,rfl,hR,hb⟩
  refine ⟨_,_,rfl,.inr ⟨g,rfl,(Array.getElem?_eq_some_iff.1 hR.all).1,fun k=>gs.getD k 0,fun k hk=>⟨?_,hR.row k hk⟩⟩,hb⟩
  rw [cell_of_row _ _ _ _ _ _ hR.all]
  simp [hk]
theorem specTo_no (wd:Int) (a:Option Addr) (cap:Nat) (cs:List (Int × Int)) (w:World) (h:CellsAt w a cs) (hm:cs.length<=1048576) (hk:okG wd cs=false) :
  Calls SqP.prog 24 #[.agg #[.int .i64 wd,.slice a cs.length cap]] w fun e w'=>∃ a2,e=.returned (.slice a2 0 0)/\Below w.heap.size w w':=by
 have hbX:Below w.heap.size w (w.alloc (.cells #[.int .i64 wd,.slice a cs.length cap] 25)):=bel
 have hbY:Below (w.alloc (.cells #[.int .i64 wd,.slice a cs.length cap] 25)).heap.size (w.alloc (.cells #[.int .i64 wd,.slice a cs.length cap] 25)) ((w.alloc (.cells #[.int .i64 wd,.slice a cs.length cap] 25)).alloc (.cells #[] 27)):=(Below.refl _ _).alloc (Nat.le_refl _) _
 have hB:=bcall hbX hbX.size hbY
 have hG:=specGridOk_any wd a cap cs _ (h.below hB) (by omega)
 rw [hk] at hG
 clear hbX hbY h hk
 go_enter SqP.func24,Tryz.ntmps24
 go_wp2_with fail
 refine hG.mono ?_
 rintro e w4 ⟨rfl,hb4⟩
 have hB4:=bcall hB hB.size hb4
 go_wp2_with fail
 go_ret
 exact ⟨_,rfl,hB4⟩
theorem specPicTo_any (wd:Int) (a:Option Addr) (cap:Nat) (cs:List (Int × Int)) (w:World) (h:CellsAt w a cs) (hm:cs.length<=1048576) :
  Calls SqP.prog 24 #[.agg #[.int .i64 wd,.slice a cs.length cap]] w fun e w'=>∃ a2 c2,e=.returned (.slice a2 (manyN wd cs) c2)/\RowsAt w' a2 (manyN wd cs) (fun k j=>toN wd cs (k:Int) (j:Int))/\Below w.heap.size w w':=by
 rcases hk:okG wd cs with _ | _
 ·have e:manyN wd cs=0:=by unfold manyN; rw [manyG_bad hk]; rfl
  rw [e]
  exact (specTo_no wd a cap cs w h hm hk).mono fun e w' ⟨a2,h1,h2⟩=>⟨a2,0,h1,.inl rfl,h2⟩
 ·obtain ⟨W,H,S⟩:=siz_of hk
  have hM:=(manyN_in wd cs).1
  rw [S.em] at hM
  have hM1:0 < manyN wd cs:=by have:=S.hW; omega
  refine (specTo_yes S a cap w h hm (manyN wd cs) (by omega)).mono ?_
  rintro e w' ⟨v,gs,rfl,hgl,hO,hb⟩
  obtain ⟨b3,c3,rfl,hb3n,hb3l⟩:=own_form' hO.own (by rw [hgl]; exact hM1)
  refine ⟨_,c3,by rw [hgl],.inr ⟨b3,rfl,hb3l,fun k=>gs.getD k 0,fun k hk=>⟨?_,hO.row k (by rw [hgl]; exact hk)⟩⟩,hb⟩
  rw [World.ownsRow.cellAt hO.own k (by rw [hgl,Nat.mul_one]; exact hk)]
  simp [List.getD_eq_getElem?_getD,hgl,hk]
theorem row_r1 {w:World} {g M:Nat} {f:Nat->Int} (h:RowB w g M f):R1At w (some ⟨g,0,none⟩) ((List.range M).map f):=by
 refine .inr ⟨g,0,rfl,h.lt,fun i hi=>?_⟩
 have hi':i < M:=by simpa using hi
 rw [Nat.zero_add,h.cell hi']
 simp [List.getD_eq_getElem?_getD,hi']
theorem llInts_rows (g g2 M:Nat) (f:Nat->Int) (w:World) (h:RowB w g M f) (h2:RowB w g2 M f) (hm:M<=1000000) :
  Calls SqP.prog 13 #[rowV M g,rowV M g2] w fun e w'=>e=.returned (.bool true)/\Below w.heap.size w w':=by
 have q:=llInts_same (some ⟨g,0,none⟩) (some ⟨g2,0,none⟩) M M ((List.range M).map f) w (row_r1 h) (row_r1 h2) (by simpa using hm)
 rw [List.length_map,List.length_range] at q
 exact q
theorem llRows_same (a a2:Option Addr) (c c2 M:Nat) (f:Nat->Nat->Int) (w:World) (h:RowsAt w a M f) (h2:RowsAt w a2 M f) (hm:M<=1000000) :
  Calls SqP.prog 23 #[.slice a M c,.slice a2 M c2] w fun e w'=>e=.returned (.bool true)/\Below w.heap.size w w':=by
 have bl:((M:Int) != (M:Int))=false:=by simp
 go_enter SqP.func23,Tryz.ntmps23
 go_wp2_with fail
 go_loopw [5] (fun ii wr=>∃ i:Nat,i<=M/\ii=.int .i64 i/\Below w.heap.size w wr) (fun ii _=>M - (intOf ii).toNat)
 case atStart=>exact ⟨0,Nat.zero_le _,rfl,Below.refl _ _⟩
 case round =>
  rename World=>wo
  obtain ⟨i,hi,rfl,hb⟩:=hrel
  have hzo:=hb.size
  by_cases hlt:i < M
  ·rcases h.below hb with q | ⟨b,rfl,_,gs,hc⟩
   ·omega
   rcases h2.below hb with q | ⟨b2,rfl,_,gs2,hc2⟩
   ·omega
   obtain ⟨x0,r0⟩:=hc i hlt
   obtain ⟨y0,r2⟩:=hc2 i hlt
   obtain ⟨g,eg⟩:∃ g,gs i=g:=⟨_,rfl⟩
   obtain ⟨g2,eg2⟩:∃ g,gs2 i=g:=⟨_,rfl⟩
   rw [eg] at x0 r0
   rw [eg2] at y0 r2
   have hltI:(i:Int) < (M:Int):=by omega
   have wk:IntKind.i64.wrap ((i:Int) + 1)=(i:Int) + 1:=IntWalk.i64_in _ (by omega)
   clear h h2 hc hc2 eg eg2
   go_wp2
   go_region_held3 (fun w'=>w'.cell? ⟨b,i,none⟩=some (rowV M g)/\w'.cell? ⟨b2,i,none⟩=some (rowV M g2))
    (first
     | exact ⟨keepc hb7 x0,keepc hb7 y0⟩
     | exact ⟨x0,y0⟩
     | go_keep)
    (first
     | (go_at_call 13; refine (llInts_rows g g2 M (f i) _ (r0.below (by first | exact Below.refl _ _ | exact (Below.refl _ _).drew)) (r2.below (by first | exact Below.refl _ _ | exact (Below.refl _ _).drew)) hm).mono ?_; rintro e w7 ⟨rfl,hb7'⟩; have hb7:Below wo.heap.size wo w7:=(by first | exact hb7' | exact bdrew hb7'))
     | fail)
   all_goals
    have hb8:=bcall hb hzo hb7
    go_wp2_with fail
    go_roundw
    case rel=>exact ⟨i + 1,by omega,by go_num,by first | exact hb8 | exact hb8.drew⟩
    case measure=>simp [intOf]; omega
  ·have hnl:¬ (i:Int) < (M:Int):=by omega
   go_wp2_with fail
   go_ret
   exact ⟨rfl,hb⟩
theorem drawPicTo_any (a:Option Addr) (n cap:Nat) (f:Nat->Int) (w:World) (h:BytesAt w a n f) (hn:n<=1048576) (hcap:n<=cap) (hc2:cap<=9223372036854775807) :
  Calls SqP.prog 21 #[.slice a n cap] w fun e w'=>∃ (wd:Int) (a:Option Addr) (c:Nat) (xs:List (Int × Int)),e=.returned (.agg #[.int .i64 wd,.slice a xs.length c])/\CellsAt w' a xs/\xs.length<=31/\Below w.heap.size w w':=by
 go_enter SqP.func21,Tryz.ntmps21
 go_wp2_with fail
 refine (l6Open_any _ n _ f _ (h.below bel) hn hcap hc2).mono ?_
 rintro e w1 ⟨rfl,hr1,hb1⟩
 have hz1:=hb1.size
 simp at hz1 hr1
 have s1:w.heap.size + 1 < w1.heap.size:=by have:=hr1.lt; omega
 have p4:w1.cell? ⟨w.heap.size,0,none⟩=some (.int .i64 0):=keepc hb1 (by simp [go_sem])
 have p5:w1.cell? ⟨w.heap.size,1,none⟩=some (.slice none 0 0):=keepc hb1 (by simp [go_sem])
 have f4:w1.frozen? ⟨w.heap.size,0,none⟩=false:=keepf hb1 (v:=.int .i64 0) (by simp [go_sem]) (by simp [go_sem])
 have f5:w1.frozen? ⟨w.heap.size,1,none⟩=false:=keepf hb1 (v:=.slice none 0 0) (by simp [go_sem]) (by simp [go_sem])
 have hB1:Below w.heap.size w w1:=bcall bel (by simp) hb1
 clear hb1
 go_wp2_with fail
 refine (l71Bright_any _ (w.heap.size + 1) (w.heap.size + 1 + 1) 0 hr1 (by omega) (by omega)).mono ?_
 rintro e w2 ⟨wd,a2,c2,xs,rfl,hC2,hn2,hxl,hr2,hg2⟩
 have nr:w.heap.size ≠ w.heap.size + 1:=by omega
 replace f4:=gfroz hg2 nr p4 f4
 replace f5:=gfroz hg2 nr p5 f5
 replace p4:=gcell hg2 nr p4
 replace p5:=gcell hg2 nr p5
 have hB2:Below w.heap.size w w2:=⟨hg2.os.trans hB1.os,hg2.tape.trans hB1.tape,hg2.output.trans hB1.output,Nat.le_trans hB1.size hg2.size,fun k hk=>(hg2.block k (by omega) (by simp; omega)).trans (hB1.block k hk)⟩
 go_wp2
 refine bodyPost_ret (v:=.agg #[.int .i64 wd,.slice a2 xs.length c2]) (by simp [results,Tryz.results21,go_sem,p4,p5]) rfl ⟨wd,a2,c2,xs,rfl,?_,hxl,?_⟩
 ·by_cases hx:xs=[]
  ·exact .inl hx
  ·exact (hC2.set (bb:=w.heap.size) (fun b off e=>by have:=hn2 b off e hx; omega) _).set (bb:=w.heap.size) (fun b off e=>by have:=hn2 b off e hx; omega) _
 ·exact (hB2.setCell (p:=⟨w.heap.size,0,none⟩) (Nat.le_refl _) _).setCell (p:=⟨w.heap.size,1,none⟩) (Nat.le_refl _) _
end Sp
end Go.Proofs.YtdhopelplokehaaGreat
