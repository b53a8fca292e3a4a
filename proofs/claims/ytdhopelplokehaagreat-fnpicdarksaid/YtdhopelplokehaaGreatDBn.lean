/- Of the proof: PGp, PGr, PGy, PGz -/
import Derived.BigRegion
import Derived.Test.YtdhopelplokehaaGreatDAx
import Derived.Test.YtdhopelplokehaaGreatDBj
set_option maxHeartbeats 4000000
set_option linter.unusedVariables false
namespace Go.Proofs.YtdhopelplokehaaGreat
namespace Sp
open Go.RowKit
attribute [local go_sem ↓] Go.wp_at_zero Go.wp_at_succ
theorem ck_go {Q:Exit->Act->World->Prop} {rest:Code} (wd:Int) (a:Option Addr) (cap:Nat) (cs:List (Int × Int)) (w:World) (h:CellsAt w a cs) (hm:cs.length < 4611686018427387904)
  (hK:∀ (w':World) (u1 u2 u3 u4 u5 u6 u7 u8 u9 u10 u11 u12 u13 u14 u15 u16 u17 u18 u19 u20 u21:Value),Below w.heap.size w w'->Code.wp SqP.prog rest Q ⟨#[.agg #[.int .i64 wd,.slice a cs.length cap],u1,u2,u3,u4,u5,u6,u7,u8,u9,u10,u11,u12,u13,u14,u15,u16,u17,u18,u19,u20,u21],[]⟩ w') :
  Code.wp SqP.prog (ckAll rest) Q ⟨#[.agg #[.int .i64 wd,.slice a cs.length cap],undef,undef,undef,undef,undef,undef,undef,undef,undef,undef,undef,undef,undef,undef,undef,undef,undef,undef,undef,undef,undef],[]⟩ w:=by
 unfold ckAll ckA ckS ckL
 simp only [opr]
 have b1:decide ((cs.length:Int) < 4611686018427387904)=true:=decide_eq_true (by omega)
 have wz:IntKind.i64.wrap (wd * 0)=0:=by rw [Int.mul_zero]; exact IntWalk.i64_in _ (by omega)
 have hb0:Below w.heap.size w (w.alloc (.cells #[.int .i64 wd,.slice a cs.length cap] 25)):=bel
 have g0:(w.alloc (.cells #[.int .i64 wd,.slice a cs.length cap] 25)).cell? ⟨w.heap.size,0,none⟩=some (.int .i64 wd):=by simp [go_sem]
 have g1:(w.alloc (.cells #[.int .i64 wd,.slice a cs.length cap] 25)).cell? ⟨w.heap.size,1,none⟩=some (.slice a cs.length cap):=by simp [go_sem]
 have f0:(w.alloc (.cells #[.int .i64 wd,.slice a cs.length cap] 25)).frozen? ⟨w.heap.size,0,none⟩=false:=by simp [go_sem]
 have f1:(w.alloc (.cells #[.int .i64 wd,.slice a cs.length cap] 25)).frozen? ⟨w.heap.size,1,none⟩=false:=by simp [go_sem]
 go_wp2_with fail
 obtain ⟨w1,hw1⟩:∃ w1,w1=w.alloc (.cells #[.int .i64 wd,.slice a cs.length cap] 25):=⟨_,rfl⟩
 rw [<- hw1] at hb0 g0 g1 f0 f1 ⊢
 clear hw1 wz
 have hC:=h.below hb0
 go_loopw [9,10,11,12,13,14,15,16,17,18] (fun ii _ _ _ _ _ _ _ _ _ wr=>∃ i:Nat,i<=cs.length/\ii=.int .i64 i/\wr=w1) (fun ii _ _ _ _ _ _ _ _ _ _=>cs.length - (intOf ii).toNat)
 case atStart=>exact ⟨0,Nat.zero_le _,rfl,rfl⟩
 case round =>
  rename World=>wo
  obtain ⟨i,hi,rfl,ew⟩:=hrel
  subst ew
  by_cases hlt:i < cs.length
  ·rcases hC with q | ⟨b,off,rfl,hbl,hc⟩
   ·rw [q] at hlt; simp at hlt
   obtain ⟨z0,z1⟩:=hc i hlt
   obtain ⟨t,et⟩:∃ t,cs.getD i (0,0)=t:=⟨_,rfl⟩
   rw [et] at z0 z1
   obtain ⟨t0,t1⟩:=t
   simp only at z0 z1
   have bl:decide ((i:Int) < (cs.length:Int))=true:=decide_eq_true (by omega)
   have wa:IntKind.i64.wrap (t0 * 0)=0:=by rw [Int.mul_zero]; exact IntWalk.i64_in _ (by omega)
   have wb:IntKind.i64.wrap (t1 * 0)=0:=by rw [Int.mul_zero]; exact IntWalk.i64_in _ (by omega)
   have wi:IntKind.i64.wrap ((i:Int) + 1)=(i:Int) + 1:=IntWalk.i64_in _ (by omega)
   clear hc et
   go_wp2_with fail
   go_roundw
   case rel=>exact ⟨i + 1,by omega,by go_num,by first | rfl | trivial⟩
   case measure=>simp [intOf]; omega
  ·have bl:decide ((i:Int) < (cs.length:Int))=false:=decide_eq_false (by omega)
   have hb2:=(hb0.setCell (p:=⟨w.heap.size,0,none⟩) (Nat.le_refl _) (.int .i64 wd)).setCell (p:=⟨w.heap.size,1,none⟩) (Nat.le_refl _) (.slice a cs.length cap)
   go_wp2_with fail
   exact hK _ _ _ _ _ _ _ _ _ _ _ _ _ _ _ _ _ _ _ _ _ _ hb2
end Sp
namespace Sp
open Go.RowKit
def RowB (w:World) (g M:Nat) (f:Nat->Int):Prop:=∃ arr,w.heap[g]?=some (.cells arr 3)/\arr.size=M/\∀ j,j < M->arr[j]?=some (.int .i64 (f j))
theorem RowB.lt {w:World} {g M:Nat} {f:Nat->Int} (h:RowB w g M f):g < w.heap.size:=by
 obtain ⟨arr,h1,_⟩:=h
 exact (Array.getElem?_eq_some_iff.1 h1).1
theorem RowB.cell {w:World} {g M:Nat} {f:Nat->Int} (h:RowB w g M f) {j:Nat} (hj:j < M):w.cell? ⟨g,j,none⟩=some (.int .i64 (f j)):=by
 obtain ⟨arr,h1,_,h3⟩:=h
 rw [cell_of_row _ _ _ _ _ _ h1]
 exact h3 j hj
theorem RowB.thaw {w:World} {g M:Nat} {f:Nat->Int} (h:RowB w g M f) (j:Nat):w.frozen? ⟨g,j,none⟩=false:=by
 obtain ⟨arr,h1,_⟩:=h
 exact frozen_of_row _ _ _ _ _ h1
theorem RowB.at {w w':World} {g M:Nat} {f:Nat->Int} (h:RowB w g M f) (e:w'.heap[g]?=w.heap[g]?):RowB w' g M f:=by
 obtain ⟨arr,h1,h2⟩:=h
 exact ⟨arr,e.trans h1,h2⟩
theorem RowB.to {w:World} {g M:Nat} {f f':Nat->Int} (h:RowB w g M f) (e:∀ j,j < M->f' j=f j):RowB w g M f':=by
 obtain ⟨arr,h1,h2,h3⟩:=h
 exact ⟨arr,h1,h2,fun j hj=>by rw [e j hj]; exact h3 j hj⟩
theorem RowB.below {w w':World} {g M:Nat} {f:Nat->Int} (h:RowB w g M f) (hb:Below w.heap.size w w'):RowB w' g M f:=h.at (hb.block g h.lt)
theorem RowB.alloc {w:World} {g M:Nat} {f:Nat->Int} (h:RowB w g M f) (o:Obj):RowB (w.alloc o) g M f:=h.below ((Below.refl _ _).alloc (Nat.le_refl _) _)
theorem RowB.set {w:World} {g M:Nat} {f:Nat->Int} (h:RowB w g M f) {i:Nat} (hi:i < M) (x:Int):RowB (w.setCell ⟨g,i,none⟩ (.int .i64 x)) g M (fun j=>if j=i then x else f j):=by
 obtain ⟨arr,h1,h2,h3⟩:=h
 refine ⟨_,heap_setCell_same w g i _ _ _ h1,by simpa using h2,fun j hj=>?_⟩
 show _=some (Value.int .i64 (if j=i then x else f j))
 by_cases e:j=i
 ·subst e
  rw [Array.getElem?_setIfInBounds_self_of_lt (by omega),if_pos rfl]
 ·rw [Array.getElem?_setIfInBounds_ne (Ne.symm e),if_neg e]
  exact h3 j hj
theorem RowB.whole {w:World} {g M:Nat} {f:Nat->Int} (h:RowB w g M f):w.heap[g]?=some (.cells (Array.ofFn fun j:Fin M=>.int .i64 (f j)) 3):=by
 obtain ⟨arr,h1,h2,h3⟩:=h
 rw [h1]
 refine congrArg (fun x=>some (Obj.cells x 3)) (Array.ext (by simp [h2]) fun j q1 q2=>?_)
 have:=h3 j (by omega)
 rw [Array.getElem?_eq_getElem q1] at this
 simpa using this
theorem infoIntR:(SqP.prog.info? 3).map (fun i=>(i.zero,i.size,i.bytes))=some (some (.int .i64 0),1,8):=by kernel_rfl
theorem make_row (n:Nat) (hn:n<=1048576) (w:World):(Instr.makeSlice 27 (.int .i64 (n:Int)) (.int .i64 (n:Int))).run SqP.prog w=.ok (.slice (some ⟨w.heap.size,0,none⟩) n n) (w.alloc (.cells (madeCells #[.int .i64 0] n) 3)):=by
 obtain ⟨i0,hi,iz0,iz1,iz2⟩:=info_parts infoIntR
 have:=run_make (P:=SqP.prog) w 27 3 i0 (.int .i64 0) SqP.underlying27 hi iz0 .i64 .i64 (n:Int) (n:Int) (by omega) (by omega) (by rw [iz2]; omega) (by omega)
 rw [iz1] at this
 simpa [Value.cells] using this
theorem row_made (w:World) (M:Nat):RowB (w.alloc (.cells (madeCells #[.int .i64 0] M) 3)) w.heap.size M (fun _=>0) :=
 ⟨_,heap_alloc_new w _,by simp [madeCells],fun j hj=>by simp [madeCells,hj,Nat.mod_one]⟩
structure Off (g:Nat) (w w':World):Prop where
 os:w'.os=w.os
 tape:w'.tape=w.tape
 output:w'.output=w.output
 size:w.heap.size<=w'.heap.size
 block:∀ k,k < w.heap.size->¬ k=g->w'.heap[k]?=w.heap[k]?
theorem Off.refl (g:Nat) (w:World):Off g w w:=⟨rfl,rfl,rfl,Nat.le_refl _,fun _ _ _=>rfl⟩
theorem Off.alloc {g:Nat} {w w':World} (h:Off g w w') (o:Obj):Off g w (w'.alloc o):=by
 have hb:Below w'.heap.size w' (w'.alloc o):=(Below.refl _ _).alloc (Nat.le_refl _) _
 exact ⟨hb.os.trans h.os,hb.tape.trans h.tape,hb.output.trans h.output,Nat.le_trans h.size hb.size,fun k hk hg=>(hb.block k (Nat.lt_of_lt_of_le hk h.size)).trans (h.block k hk hg)⟩
theorem Off.set {g:Nat} {w w':World} (h:Off g w w') (j:Nat) (u:Value):Off g w (w'.setCell ⟨g,j,none⟩ u):=by
 have hb:Below g w' (w'.setCell ⟨g,j,none⟩ u):=(Below.refl g w').setCell (p:=⟨g,j,none⟩) (Nat.le_refl _) _
 exact ⟨hb.os.trans h.os,hb.tape.trans h.tape,hb.output.trans h.output,Nat.le_trans h.size hb.size,fun k hk hg=>(Below.heap_setCell w' ⟨g,j,none⟩ u k hg).trans (h.block k hk hg)⟩
theorem Off.drew {g:Nat} {w w':World} (h:Off g w w'):Off g w w'.drew:=⟨h.os,h.tape,h.output,h.size,h.block⟩
theorem Off.cell {g:Nat} {w w':World} (h:Off g w w') {b o:Nat} {v:Value} (hg:¬ b=g) (hc:w.cell? ⟨b,o,none⟩=some v):w'.cell? ⟨b,o,none⟩=some v:=by
 rw [World.cell?_of_block (w:=w) (h.block b (World.block_lt_of_cell? w _ hc) hg)]
 exact hc
theorem Off.below {g:Nat} {w0 w w':World} {B:Nat} (h:Off g w w') (hb:Below B w0 w) (hg:B<=g) (hz:B<=w.heap.size):Below B w0 w' :=
 ⟨h.os.trans hb.os,h.tape.trans hb.tape,h.output.trans hb.output,Nat.le_trans hb.size h.size,fun k hk=>(h.block k (by omega) (by omega)).trans (hb.block k hk)⟩
end Sp
namespace Sp
open Go.RowKit
attribute [local go_sem ↓] Go.wp_at_zero Go.wp_at_succ
theorem owns_at {w w':World} {B:Nat} {e:TypeId} {s:Nat} {v:Value} {n:Nat} {xs:List Value} (h:w.ownsRow B e s v n xs) (hb:∀ g,v.ownBlock=some g->w'.heap[g]?=w.heap[g]?):w'.ownsRow B e s v n xs:=by
 refine ⟨h.1,?_⟩
 rcases h.2 with hn | ⟨g,cap,cur,hv,hB,hg,rest⟩
 ·exact .inl hn
 ·exact .inr ⟨g,cap,cur,hv,hB,by rw [hb g (by rw [hv]; rfl)]; exact hg,rest⟩
abbrev rowV (M g:Nat):Value:=.slice (some ⟨g,0,none⟩) M M
structure RowsO (w:World) (B M:Nat) (oo:Value) (gs:List Nat) (f:Nat->Nat->Int):Prop where
 own:w.ownsRow B 27 1 oo gs.length (gs.map (rowV M))
 row:∀ j,j < gs.length->RowB w (gs.getD j 0) M (f j)
 new:∀ g ∈ gs,B<=g/\oo.ownBlock ≠ some g
 nodup:gs.Nodup
theorem mem_getD {gs:List Nat} {j:Nat} (h:j < gs.length):gs.getD j 0 ∈ gs:=by
 rw [List.getD_eq_getElem?_getD,List.getElem?_eq_getElem h,Option.getD_some]
 exact List.getElem_mem h
theorem RowsO.at {w w':World} {B M:Nat} {oo:Value} {gs:List Nat} {f:Nat->Nat->Int} (h:RowsO w B M oo gs f) (hb:∀ g,(oo.ownBlock=some g\/g ∈ gs)->w'.heap[g]?=w.heap[g]?):RowsO w' B M oo gs f :=
 ⟨owns_at h.own fun g e=>hb g (.inl e),fun j hj=>(h.row j hj).at (hb _ (.inr (mem_getD hj))),h.new,h.nodup⟩
theorem RowsO.lt {w:World} {B M:Nat} {oo:Value} {gs:List Nat} {f:Nat->Nat->Int} (h:RowsO w B M oo gs f) (g:Nat) (hg:oo.ownBlock=some g\/g ∈ gs):B<=g/\g < w.heap.size:=by
 rcases hg with e | e
 ·exact World.ownsRow.lt h.own g e
 ·refine ⟨(h.new g e).1,?_⟩
  obtain ⟨j,hj,rfl⟩:=List.getElem_of_mem e
  have:=(h.row j hj).lt
  rwa [List.getD_eq_getElem?_getD,List.getElem?_eq_getElem hj,Option.getD_some] at this
theorem RowsO.below {w w':World} {B M:Nat} {oo:Value} {gs:List Nat} {f:Nat->Nat->Int} (h:RowsO w B M oo gs f) (hb:Below w.heap.size w w'):RowsO w' B M oo gs f :=
 h.at fun g hg=>hb.block g (h.lt g hg).2
theorem RowsO.off {w w':World} {B M g0:Nat} {oo:Value} {gs:List Nat} {f:Nat->Nat->Int} (h:RowsO w B M oo gs f) (ho:Off g0 w w') (hn:oo.ownBlock ≠ some g0/\g0 ∉ gs):RowsO w' B M oo gs f :=
 h.at fun g hg=>ho.block g (h.lt g hg).2 fun e=>by
  subst e
  exact hg.elim hn.1 hn.2
theorem RowsO.push {w w6:World} {B M:Nat} {oo:Value} {gs:List Nat} {f:Nat->Nat->Int} {g g6 k6 n6:Nat} (h:RowsO w B M oo gs f) (hr:RowB w g M (f gs.length)) (hg:B<=g/\oo.ownBlock ≠ some g/\g ∉ gs) (hn6:n6=gs.length + 1)
  (hO:w6.ownsRow B 27 1 (.slice (some ⟨g6,0,none⟩) n6 k6) n6 (gs.map (rowV M) ++ [rowV M g])) (hgr:w.grownBy w6 oo.ownBlock) (hat:oo.ownBlock=some g6\/w.heap.size<=g6):RowsO w6 B M (.slice (some ⟨g6,0,none⟩) n6 k6) (gs ++ [g]) f:=by
 have hne:∀ x ∈ gs ++ [g],w6.heap[x]?=w.heap[x]?/\x < w.heap.size/\oo.ownBlock ≠ some x/\B<=x:=fun x hx=>by
  rcases List.mem_append.1 hx with hx | hx
  ·have h1:=h.lt x (.inr hx)
   exact ⟨hgr.block x h1.2 (fun e=>(h.new x hx).2 e.symm),h1.2,(h.new x hx).2,h1.1⟩
  ·simp only [List.mem_singleton] at hx
   subst hx
   exact ⟨hgr.block x hr.lt (fun e=>hg.2.1 e.symm),hr.lt,hg.2.1,hg.1⟩
 refine ⟨?_,fun j hj=>?_,fun x hx=>⟨(hne x hx).2.2.2,fun e=>?_⟩,?_⟩
 ·subst hn6
  simpa using hO
 ·have hm:=mem_getD hj
  have e1:=(hne _ hm).1
  by_cases hlt:j < gs.length
  ·have e2:(gs ++ [g]).getD j 0=gs.getD j 0:=by simp [List.getD_eq_getElem?_getD,List.getElem?_append_left hlt]
   rw [e2] at e1 ⊢
   exact (h.row j hlt).at e1
  ·have e3:j=gs.length:=by simp at hj; omega
   subst e3
   have e2:(gs ++ [g]).getD gs.length 0=g:=by simp [List.getD_eq_getElem?_getD]
   rw [e2] at e1 ⊢
   exact hr.at e1
 ·have e':g6=x:=by simpa [Value.ownBlock] using e
  subst e'
  rcases hat with q | q
  ·exact (hne _ hx).2.2.1 q
  ·have:=(hne _ hx).2.1; omega
 ·rw [List.nodup_append]
  exact ⟨h.nodup,by simp,fun x hx y hy e=>by
   simp only [List.mem_singleton] at hy
   subst hy
   subst e
   exact hg.2.2 hx⟩
theorem RowsO.mono {w:World} {B B' M:Nat} {oo:Value} {gs:List Nat} {f:Nat->Nat->Int} (h:RowsO w B M oo gs f) (hB:B'<=B):RowsO w B' M oo gs f :=
 ⟨ownsRow_mono h.own hB,h.row,fun g hg=>⟨Nat.le_trans hB (h.new g hg).1,(h.new g hg).2⟩,h.nodup⟩
theorem infoRow:(SqP.prog.info? 27).map (fun i=>(i.zero,i.size,i.bytes))=some (some (.slice none 0 0),1,24):=by kernel_rfl
set_option maxRecDepth 20000 in
theorem specTo_yes {wd:Int} {cs:List (Int × Int)} {W H:Nat} (S:Siz wd cs W H) (a:Option Addr) (cap:Nat) (w:World) (h:CellsAt w a cs) (hm:cs.length<=1048576) (M:Nat) (hM:M=2 * (W + H)) :
  Calls SqP.prog 24 #[.agg #[.int .i64 wd,.slice a cs.length cap]] w fun e w'=>∃ v gs,e=.returned v/\gs.length=M/\RowsO w' w.heap.size M v gs (fun k j=>toN wd cs (k:Int) (j:Int))/\Below w.heap.size w w':=by
 obtain ⟨i0,hi,iz0,iz1,iz2⟩:=info_parts infoRow
 have hok:=S.ok
 have hMI:2 * ((W:Int) + (H:Int))=(M:Int):=by omega
 have hM20:M<=20:=by have:=S.hW; have:=S.hH; omega
 have HLN:Hid (cs.length / W=H):=by
  show _=_
  rw [S.el]; exact Nat.mul_div_cancel_left H (by have:=S.hW; omega)
 have hmany:∀ w:World,Calls SqP.prog 50 #[.agg #[.int .i64 wd,.slice a cs.length cap]] w fun e w'=>e=.returned (.int .i64 (M:Int))/\Below w.heap.size w w':=by
  intro w
  rw [<- hMI,S.ew]
  exact l3Many_any W H a cs.length cap w S.hW S.hH.2 (by omega) HLN.out
 have hmk:=make_row M (by omega)
 have hbX:Below w.heap.size w (w.alloc (.cells #[.int .i64 wd,.slice a cs.length cap] 25)):=bel
 have hbY:Below (w.alloc (.cells #[.int .i64 wd,.slice a cs.length cap] 25)).heap.size (w.alloc (.cells #[.int .i64 wd,.slice a cs.length cap] 25)) ((w.alloc (.cells #[.int .i64 wd,.slice a cs.length cap] 25)).alloc (.cells #[] 27)):=(Below.refl _ _).alloc (Nat.le_refl _) _
 have g0:(w.alloc (.cells #[.int .i64 wd,.slice a cs.length cap] 25)).cell? ⟨w.heap.size,0,none⟩=some (.int .i64 wd):=by simp [go_sem]
 have g1:(w.alloc (.cells #[.int .i64 wd,.slice a cs.length cap] 25)).cell? ⟨w.heap.size,1,none⟩=some (.slice a cs.length cap):=by simp [go_sem]
 have hO:RowsO ((w.alloc (.cells #[.int .i64 wd,.slice a cs.length cap] 25)).alloc (.cells #[] 27)) (w.heap.size + 1) M (.slice (some ⟨w.heap.size + 1,0,none⟩) 0 0) [] (fun k j=>toN wd cs (k:Int) (j:Int)) :=
  ⟨⟨rfl,Or.inr ⟨w.heap.size + 1,0,#[],rfl,Nat.le_refl _,by have:=heap_alloc_new (w.alloc (.cells #[.int .i64 wd,.slice a cs.length cap] 25)) (.cells #[] 27); simpa using this,Nat.le_refl _,by unfold maxLen; omega,rfl,rfl⟩⟩,fun j hj=>absurd hj (by simp),by simp,by simp⟩
 have hB:=bcall hbX hbX.size hbY
 have hC:=h.below hB
 replace g0:=keepc hbY g0
 replace g1:=keepc hbY g1
 have hG:=specGridOk_any wd a cap cs _ hC (by omega)
 rw [hok] at hG
 have SS:Hid (Siz wd cs W H):=S
 have EM:Hid (manyG wd cs=(M:Int)):=by show _=_; rw [S.em]; exact hMI
 clear hbX hbY hMI hok hM
 go_enter SqP.func24,Tryz.ntmps24
 go_wp2_with fail
 obtain ⟨w3,hw3⟩:∃ w3,w3=(w.alloc (.cells #[.int .i64 wd,.slice a cs.length cap] 25)).alloc (.cells #[] 27):=⟨_,rfl⟩
 rw [<- hw3] at hO hB hC g0 g1 hG ⊢
 clear hw3
 refine hG.mono ?_
 rintro e w4 ⟨rfl,hb4⟩
 replace hO:=hO.below hb4
 replace hC:=hC.below hb4
 replace g0:=keepc hb4 g0
 replace g1:=keepc hb4 g1
 replace hB:=bcall hB hB.size hb4
 clear hb4 hG
 go_wp2_with fail
 go_loopw [3,4] (fun oo kk wr=>∃ (k:Nat) (gs:List Nat),k<=M/\kk=.int .i64 k/\gs.length=k/\RowsO wr (w.heap.size + 1) M oo gs (fun k j=>toN wd cs (k:Int) (j:Int))/\wr.cell? ⟨w.heap.size,0,none⟩=some (.int .i64 wd)/\wr.cell? ⟨w.heap.size,1,none⟩=some (.slice a cs.length cap)/\CellsAt wr a cs/\Below w.heap.size w wr) (fun _ kk _=>M - (intOf kk).toNat)
 case atStart=>exact ⟨0,[],Nat.zero_le _,rfl,rfl,hO,g0,g1,hC,hB⟩
 case round =>
  rename World=>wo
  clear hO g0 g1 hC hB
  obtain ⟨k,gs,hk,rfl,hgl,hO,g0,g1,hC,hB⟩:=hrel
  go_wp2_with fail
  refine (hmany _).mono ?_
  rintro e x0 ⟨rfl,hbm⟩
  replace g0:=keepc hbm g0
  replace g1:=keepc hbm g1
  have hB0:=bcall hB hB.size hbm
  have hC0:=hC.below hbm
  have hO0:=hO.below hbm
  clear hbm hC hB hO
  by_cases hlt:k < M
  ·have hkI:(k:Int) < (M:Int):=by omega
   have wk:IntKind.i64.wrap ((k:Int) + 1)=(k:Int) + 1:=IntWalk.i64_in _ (by omega)
   have hs:inS wd cs (k:Int)=true:=by unfold inS; rw [EM.out]; exact decide_eq_true ⟨by omega,hkI⟩
   have hT:=trail_ok hs
   obtain ⟨L,hL⟩:∃ L,trailT wd cs (k:Int)=L:=⟨_,rfl⟩
   obtain ⟨hE,hQ,hsum,hlen,_⟩:=ends_known hL
   obtain ⟨es,hes⟩:∃ es,L.2=es:=⟨_,rfl⟩
   rw [hes] at hE hQ hsum hlen
   have hpos:∀ u ∈ es,1<=u.2.2:=fun u hu=>(hE u hu).1
   have ER:Hid (∀ q,toN wd cs (k:Int) q=sumTo q es):=fun q=>by unfold toN; rw [hL,hes]
   have EL:Hid (trailT wd cs (k:Int)=L):=hL
   have ES:Hid (L.2=es):=hes
   have HB:Hid (∀ (q:Int) i,0<=sumTo q (es.take i)/\sumTo q (es.take i)<=64):=by
    intro q i
    have q1:=sumTo_in q (es.take i) (fun u hu=>hpos u (List.mem_of_mem_take hu))
    have q2:=sum_take hpos i
    omega
   have HE:Hid (∀ u ∈ es,EndOk wd cs u):=hE
   have HQ:Hid (∀ u ∈ es,u.2.2<=64):=hQ
   have HSS:Hid (inS wd cs (k:Int)=true):=hs
   clear hL hes hE hQ hpos hT hs
   go_wp2_with fail
   refine (hmany _).mono ?_
   rintro e x1 ⟨rfl,hb1⟩
   replace g0:=keepc hb1 g0
   replace g1:=keepc hb1 g1
   have hB1:=bcall hB0 hB0.size hb1
   have hC1:=hC0.below hb1
   have hO1:=hO0.below hb1
   clear hb1 hC0 hB0 hO0
   have hz1:=hB1.size
   have hbA:Below x1.heap.size x1 (x1.alloc (.cells (madeCells #[.int .i64 0] M) 3)):=(Below.refl _ _).alloc (Nat.le_refl _) _
   have hrow:=row_made x1 M
   have hbox:w.heap.size < x1.heap.size:=World.block_lt_of_cell? _ _ g0
   replace g0:=keepc hbA g0
   replace g1:=keepc hbA g1
   have hCA:=hC1.below hbA
   have hBA:=bcall hB1 hB1.size hbA
   have hOA:=hO1.below hbA
   have hgn:u3.ownBlock ≠ some x1.heap.size/\x1.heap.size ∉ gs:=⟨fun e=>by have:=(hO1.lt _ (.inl e)).2; omega,fun e=>by have:=(hO1.lt _ (.inr e)).2; omega⟩
   clear hC1 hB1 hO1 hbA
   go_wp2_with fail
   obtain ⟨y0,hy0⟩:∃ y0,y0=x1.alloc (.cells (madeCells #[.int .i64 0] M) 3):=⟨_,rfl⟩
   have hgy:x1.heap.size < y0.heap.size:=by rw [hy0]; simp
   rw [<- hy0] at hrow g0 g1 hCA hBA hOA ⊢
   clear hy0
   obtain ⟨g,hg⟩:∃ g,x1.heap.size=g:=⟨_,rfl⟩
   rw [hg] at hrow hgy hz1 hgn hbox ⊢
   clear hg
   refine (l11Go_any SS.out a cap _ hCA (k:Int) HSS.out).mono ?_
   rintro e x2 ⟨pb,v1,e1,rfl,hW1,hb2⟩
   have hoe:=hW1.oe
   have c3:=hW1.c3
   rw [EL.out,ES.out] at hoe
   have hz2:=hb2.size
   have hnew:∀ b,e1.ownBlock=some b->¬ b=g:=fun b q=>by
    have:=(World.ownsRow.lt hoe b q).1
    omega
   obtain ⟨a2,c2,rfl,hR3⟩:=row3_at hoe
   have hrow2:=hrow.below hb2
   replace g0:=keepc hb2 g0
   replace g1:=keepc hb2 g1
   have hC2:=hCA.below hb2
   have hB2:=bcall hBA hBA.size hb2
   have hO2:=hOA.below hb2
   clear hb2 hCA hBA hOA hrow hW1 hoe
   go_wp2_with fail
   go_loopw [7] (fun ii wr=>∃ i:Nat,i<=es.length/\ii=.int .i64 i/\RowB wr g M (fun j=>sumTo (j:Int) (es.take i))/\Off g x2 wr) (fun ii _=>es.length - (intOf ii).toNat)
   case atStart=>exact ⟨0,Nat.zero_le _,rfl,hrow2.to (fun _ _=>rfl),Off.refl _ _⟩
   case round =>
    clear hrow2
    rename World=>wz
    obtain ⟨i,hi',rfl,hrw,hof⟩:=hrel
    by_cases hle:i < es.length
    ·rcases hR3 with q | ⟨b,off,rfl,hbl,hc⟩
     ·rw [q] at hle; simp at hle
     have hbg:=hnew b rfl
     obtain ⟨t,et⟩:∃ t,es.getD i (0,0,0)=t:=⟨_,rfl⟩
     have hmem:t ∈ es:=by rw [<- et]; simp [List.getElem?_eq_getElem hle]
     obtain ⟨z0,z1,z2⟩:=hc i hle
     rw [et] at z0 z1 z2
     replace z0:=hof.cell hbg z0
     replace z1:=hof.cell hbg z1
     replace z2:=hof.cell hbg z2
     have hEt:=HE.out t hmem
     have hw1:=hEt.1
     have hw2:=HQ.out t hmem
     have hst:∀ j:Nat,sumTo (j:Int) (es.take (i + 1))=sumTo (j:Int) (es.take i) + (if t.1=0/\t.2.1=(j:Int) then t.2.2 else 0):=fun j=>by
      rw [take_one es i (0,0,0) hle,sumTo_append,et]
      simp [sumTo]
     have hin:t.1=0->0<=t.2.1/\t.2.1 < (M:Int):=fun e0=>by
      rcases hEt.2 with ⟨_,q⟩ | ⟨_,q | q | q⟩
      ·rw [EM.out] at q; exact q
      ·omega
      ·omega
      ·omega
     obtain ⟨t0,t1,t2⟩:=t
     simp only at z0 z1 z2 hw1 hw2 hst hin
     have wi:IntKind.i64.wrap ((i:Int) + 1)=(i:Int) + 1:=IntWalk.i64_in _ (by omega)
     have hiI:(i:Int) < (es.length:Int):=by omega
     clear hmem et hc hEt
     by_cases e0:t0=0
     ·obtain ⟨J,hJ⟩:=Int.eq_ofNat_of_zero_le (hin e0).1
      have hJM:J < M:=by have:=(hin e0).2; omega
      subst hJ
      have y5:=hrw.cell hJM
      have f5:=hrw.thaw J
      have hbd:=HB.out (J:Int) i
      obtain ⟨s,hs⟩:∃ s,sumTo (J:Int) (es.take i)=s:=⟨_,rfl⟩
      rw [hs] at y5 hbd
      have ws:IntKind.i64.wrap (s + t2)=s + t2:=IntWalk.i64_in _ (by omega)
      have hset:=RowB.to (hrw.set hJM (s + t2)) (f':=fun j=>sumTo (j:Int) (es.take (i + 1))) (fun j _=>by
       rw [hst j]
       by_cases e:j=J
       ·subst e
        rw [if_pos rfl,if_pos ⟨e0,rfl⟩,hs]
       ·rw [if_neg e,if_neg (fun q=>e (by omega)),Int.add_zero])
      have hofS:=hof.set J (.int .i64 (s + t2))
      have b0:(t0 == 0)=true:=by simp [e0]
      have hJI:(J:Int) < (M:Int):=by omega
      clear hst hs hin e0 hrw hof
      go_wp2_with fail
      go_region
      go_wp2_with fail
      go_roundw
      case rel=>exact ⟨i + 1,by omega,by go_num,hset,hofS.drew⟩
      case measure=>simp [intOf]; omega
     ·have b0:(t0 == 0)=false:=by simp [e0]
      have hrw2:=hrw.to (f':=fun j=>sumTo (j:Int) (es.take (i + 1))) (fun j _=>by rw [hst j,if_neg (fun q=>e0 q.1),Int.add_zero])
      clear hst hin e0 hrw
      go_wp2_with fail
      go_roundw
      case rel=>exact ⟨i + 1,by omega,by go_num,hrw2,hof⟩
      case measure=>simp [intOf]; omega
    ·have hnl:¬ (i:Int) < (es.length:Int):=by omega
     have hfin:RowB wz g M (fun j=>toN wd cs (gs.length:Int) (j:Int)):=hrw.to (fun j _=>by rw [hgl,ER.out,List.take_of_length_le (by omega)])
     have hOz:=hO2.off hof hgn
     have g0z:=hof.cell (fun e=>by omega) g0
     have g1z:=hof.cell (fun e=>by omega) g1
     have hBz:=hof.below hB2 (by omega) (by omega)
     have hown:=fun x q=>(World.ownsRow.lt hOz.own x q).1
     have hbZ:Below wz.heap.size wz (wz.alloc (.cells #[rowV M g] 27)):=(Below.refl _ _).alloc (Nat.le_refl _) _
     have hOo:=World.ownsRow.alloc hOz.own (.cells #[rowV M g] 27)
     rw [hgl] at hOo
     have hgw:g < wz.heap.size:=hfin.lt
     clear hrw hO2 hC2 hB2 hR3
     go_wp2_with (at_builtin; go_loud (refine wpList_append_lies _ rfl _ _ _ rfl (w.heap.size + 1) 27 i0 (.slice none 0 0) 1 24 SqP.underlying34 hi iz0 iz1 iz2 rfl (by omega) u3 k (gs.map (rowV M)) rfl hOo ⟨wz.heap.size,0,none⟩ 1 1 [rowV M g] rfl rfl (World.news_of_block (cs:=#[rowV M g]) (t:=27) (fr:=(0,0)) (heap_alloc_new wz _)) (by simp [Value.oneCell']) (by omega) (by unfold maxLen; omega) (by omega) (by first | (simp; done) | (simp; omega)) (wz.heap.size + 1) (by simp) ?_))
     intro g6 k6 w6 hO6 hg6 hat6 hlt6
     have hpush:=RowsO.push (hOz.below hbZ) (hfin.below hbZ) ⟨by omega,hgn⟩ (show k + 1=gs.length + 1 by omega) hO6 hg6 (hat6.imp id fun q=>by simp; omega)
     have hB6:Below w.heap.size w w6:=(bcall hBz hBz.size hbZ).grown hg6 (by simp; omega) (fun x hx=>by have:=hown x hx; omega)
     have g09:w6.cell? ⟨w.heap.size,0,none⟩=some (.int .i64 wd):=gcellP hg6 (fun q=>by have:=hown _ q.symm; omega) (keepc hbZ g0z)
     have g19:w6.cell? ⟨w.heap.size,1,none⟩=some (.slice a cs.length cap):=gcellP hg6 (fun q=>by have:=hown _ q.symm; omega) (keepc hbZ g1z)
     have hC6:=h.below hB6
     go_wp2_with fail
     go_roundw
     case rel=>exact ⟨k + 1,gs ++ [g],by omega,by go_num,by simp [hgl],hpush,g09,g19,hC6,hB6⟩
     case measure=>simp [intOf]; omega
  ·have hkM:k=M:=by omega
   have hnk:¬ (k:Int) < (M:Int):=by omega
   go_wp2_with fail
   go_ret
   exact ⟨u3,gs,rfl,hgl.trans hkM,RowsO.mono hO0 (Nat.le_succ _),hB0⟩
end Sp
namespace Sp
open Go.RowKit
attribute [local go_sem ↓] Go.wp_at_zero Go.wp_at_succ
theorem toNo_any (wd:Int) (a:Option Addr) (cap:Nat) (cs:List (Int × Int)) (w:World) (h:CellsAt w a cs) (hm:cs.length < 4611686018427387904) (hk:okG wd cs=false) :
  Calls SqP.prog 22 #[.agg #[.int .i64 wd,.slice a cs.length cap]] w fun e w'=>e=.returned (.slice none 0 0)/\Below w.heap.size w w':=by
 go_enter SqP.func22,SqP.ntmps22
 refine ck_go wd a cap cs w h hm fun w1 u1 u2 u3 u4 u5 u6 u7 u8 u9 u10 u11 u12 u13 u14 u15 u16 u17 u18 u19 u20 u21 hb1=>?_
 have hC:=h.below hb1
 have hz:=hb1.size
 unfold toRest toL
 simp only [opr]
 go_wp2_with fail
 refine (specGridOk_any _ _ _ cs _ hC (by omega)).mono ?_
 rintro e w2 ⟨rfl,hb2⟩
 rw [hk]
 have hB2:=bcall hb1 hz hb2
 go_wp2_with fail
 refine bodyPost_ret (v:=.slice none 0 0) (by simp [results,SqP.results22,Tryz.results22,go_sem]) rfl ⟨rfl,hB2⟩
theorem make_rows (n:Nat) (hn:n<=1048576) (w:World):(Instr.makeSlice 34 (.int .i64 (n:Int)) (.int .i64 (n:Int))).run SqP.prog w=.ok (.slice (some ⟨w.heap.size,0,none⟩) n n) (w.alloc (.cells (madeCells #[.slice none 0 0] n) 27)):=by
 obtain ⟨i0,hi,iz0,iz1,iz2⟩:=info_parts infoRow
 have:=run_make (P:=SqP.prog) w 34 27 i0 (.slice none 0 0) SqP.underlying34 hi iz0 .i64 .i64 (n:Int) (n:Int) (by omega) (by omega) (by rw [iz2]; omega) (by omega)
 rw [iz1] at this
 simpa [Value.cells] using this
abbrev toCells (M:Nat) (gs:List Nat):Obj:=.cells (Array.ofFn fun k:Fin M=>rowV M (gs.getD k 0)) 27
structure RowsG (w w':World) (wd:Int) (cs:List (Int × Int)) (M g:Nat) (gs:List Nat):Prop where
 new:w.heap.size<=g
 len:gs.length=M
 nodup:gs.Nodup
 apart:∀ x ∈ gs,w.heap.size<=x/\¬ x=g
 all:w'.heap[g]?=some (toCells M gs)
 row:∀ k,k < M->RowB w' (gs.getD k 0) M (fun j=>toN wd cs (k:Int) (j:Int))
theorem toYes_any (wd:Int) (a:Option Addr) (cap:Nat) (cs:List (Int × Int)) (w:World) (h:CellsAt w a cs) (hk:okG wd cs=true) (M:Nat) (hM:manyG wd cs=(M:Int)) :
  Calls SqP.prog 22 #[.agg #[.int .i64 wd,.slice a cs.length cap]] w fun e w'=>∃ g gs,e=.returned (.slice (some ⟨g,0,none⟩) M M)/\RowsG w w' wd cs M g gs/\Below w.heap.size w w':=by
 obtain ⟨W,H,S⟩:=siz_of hk
 have hn:cs.length<=25:=by
  rw [S.el]; exact Nat.le_trans (Nat.mul_le_mul S.hW.2 S.hH.2) (by omega)
 have hMW:M=2 * (W + H):=by rw [S.em] at hM; omega
 have hM20:M<=20:=by have:=S.hW; have:=S.hH; omega
 have hM1:0 < M:=by have:=S.hW; omega
 have SS:Hid (Siz wd cs W H):=S
 have HMW:Hid (M=2 * (W + H)):=hMW
 have HK:Hid (okG wd cs=true):=hk
 have hmk:=make_rows M (by omega)
 clear hM hk hMW S
 go_enter SqP.func22,SqP.ntmps22
 refine ck_go wd a cap cs w h (by omega) fun w1 u1 u2 u3 u4 u5 u6 u7 u8 u9 u10 u11 u12 u13 u14 u15 u16 u17 u18 u19 u20 u21 hb1=>?_
 have hC:=h.below hb1
 have hz:=hb1.size
 unfold toRest toL
 simp only [opr]
 go_wp2_with fail
 refine (specGridOk_any _ _ _ cs _ hC (by omega)).mono ?_
 rintro e w2 ⟨rfl,hb2⟩
 rw [HK.out]
 have hB2:=bcall hb1 hz hb2
 replace hC:=hC.below hb2
 have hz2:=hB2.size
 clear hb1 hb2
 go_wp2_with fail
 refine (specTo_yes SS.out _ _ _ hC (by omega) M HMW.out).mono ?_
 rintro e w3 ⟨v3,gs,rfl,hgl,hO3,hb3⟩
 obtain ⟨b3,c3,rfl,hb3n,hb3l⟩:=own_form' hO3.own (by rw [hgl]; exact hM1)
 rw [hgl]
 have hcx:∀ k,k < M->w3.cell? ⟨b3,k,none⟩=some (rowV M (gs.getD k 0)):=fun k hk=>by
  have:=World.ownsRow.cellAt hO3.own k (by rw [hgl,Nat.mul_one]; exact hk)
  rw [this]
  simp [List.getD_eq_getElem?_getD,hgl,hk]
 have HCX:Hid (∀ k,k < M->w3.cell? ⟨b3,k,none⟩=some (rowV M (gs.getD k 0))):=hcx
 have hB3:=bcall hB2 hz2 hb3
 have hz3:=hB3.size
 have HO3:Hid (RowsO w3 w2.heap.size M (.slice (some ⟨b3,0,none⟩) gs.length c3) gs (fun k j=>toN wd cs (k:Int) (j:Int))):=hO3
 clear hb3 hB2 hcx hO3
 have hbA:Below w3.heap.size w3 (w3.alloc (.cells (madeCells #[.slice none 0 0] M) 27)):=(Below.refl _ _).alloc (Nat.le_refl _) _
 have hB4:=bcall hB3 hz3 hbA
 have hA0:(w3.alloc (.cells (madeCells #[.slice none 0 0] M) 27)).heap[w3.heap.size]?=some (.cells (madeCells #[.slice none 0 0] M) 27):=heap_alloc_new w3 _
 go_wp2_with fail
 obtain ⟨w4,hw4⟩:∃ w4,w4=w3.alloc (.cells (madeCells #[.slice none 0 0] M) 27):=⟨_,rfl⟩
 rw [<- hw4] at hB4 hA0 hbA ⊢
 clear hw4 hmk hB3 hC
 obtain ⟨g,hg⟩:∃ g,w3.heap.size=g:=⟨_,rfl⟩
 rw [hg] at hA0 hz3 hbA hb3l ⊢
 have hgw:Hid (w3.heap.size=g):=hg
 clear hg
 have hsz0:(madeCells #[Value.slice none 0 0] M).size=M:=by simp [madeCells]
 go_loopw [6,7,8,9,11] (fun kk _ _ _ _ wr=>∃ (k:Nat) (arr:Array Value),k<=M/\kk=.int .i64 k/\Below w.heap.size w wr/\Below g w3 wr/\wr.heap[g]?=some (.cells arr 27)/\arr.size=M/\∀ j,j < k->arr[j]?=some (rowV M (gs.getD j 0))) (fun kk _ _ _ _ _=>M - (intOf kk).toNat)
 case atStart=>exact ⟨0,_,Nat.zero_le _,rfl,hB4,hbA,hA0,hsz0,fun j hj=>by omega⟩
 case round =>
  rename World=>wo
  obtain ⟨k,arr,hk,rfl,hbo,hb3o,hg,hsz,harr⟩:=hrel
  by_cases hlt:k < M
  ·have bl:decide ((k:Int) < (M:Int))=true:=decide_eq_true (by omega)
   have wk:IntKind.i64.wrap ((k:Int) + 1)=(k:Int) + 1:=IntWalk.i64_in _ (by omega)
   have hgl2:g < wo.heap.size:=(Array.getElem?_eq_some_iff.1 hg).1
   have y0:wo.cell? ⟨b3,k,none⟩=some (rowV M (gs.getD k 0)):=by
    rw [World.cell?_of_block (w:=w3) (hb3o.block b3 (by omega))]
    exact HCX.out k hlt
   obtain ⟨x,hx⟩:∃ x,gs.getD k 0=x:=⟨_,rfl⟩
   have HX:Hid (gs.getD k 0=x):=hx
   rw [hx] at y0
   clear hx
   have hk5:k < arr.size:=by omega
   have c5:wo.cell? ⟨g,k,none⟩=some arr[k]:=by rw [cell_of_row _ _ _ _ _ _ hg]; exact Array.getElem?_eq_getElem hk5
   have f5:wo.frozen? ⟨g,k,none⟩=false:=frozen_of_row _ _ _ _ _ hg
   have hb6:Below w.heap.size w (wo.setCell ⟨g,k,none⟩ (rowV M x)):=hbo.setCell (p:=⟨g,k,none⟩) (by show w.heap.size<=g; omega) _
   have hb36:Below g w3 (wo.setCell ⟨g,k,none⟩ (rowV M x)):=hb3o.setCell (p:=⟨g,k,none⟩) (Nat.le_refl _) _
   have hg6:(wo.setCell ⟨g,k,none⟩ (rowV M x)).heap[g]?=some (.cells (arr.setIfInBounds k (rowV M x)) 27):=heap_setCell_same wo g k _ _ _ hg
   have harr6:∀ j,j < k + 1->(arr.setIfInBounds k (rowV M x))[j]?=some (rowV M (gs.getD j 0)):=fun j hj=>by
    by_cases e:j=k
    ·subst e
     rw [Array.getElem?_setIfInBounds_self_of_lt hk5,HX.out]
    ·rw [Array.getElem?_setIfInBounds_ne (by omega)]
     exact harr j (by omega)
   clear harr hbo hg hb3o
   go_wp2_with fail
   go_roundw
   case rel=>exact ⟨k + 1,_,by omega,by go_num,hb6,hb36,hg6,by simpa using hsz,harr6⟩
   case measure=>simp [intOf]; omega
  ·have bl:decide ((k:Int) < (M:Int))=false:=decide_eq_false (by omega)
   have hfin:wo.heap[g]?=some (toCells M gs):=by
    rw [hg]
    refine congrArg (fun x=>some (Obj.cells x 27)) (Array.ext (by simp [hsz]) fun j h1 h2=>?_)
    have:=harr j (by omega)
    rw [Array.getElem?_eq_getElem h1] at this
    simpa using this
   have hR:RowsG w wo wd cs M g gs:=by
    have hO:=HO3.out
    refine ⟨by omega,hgl,hO.nodup,fun x hx=>?_,hfin,fun k hk=>?_⟩
    ·have h1:=hO.lt x (.inr hx)
     have h2:=hgw.out
     exact ⟨by omega,by omega⟩
    ·have hx:=mem_getD (gs:=gs) (j:=k) (by rw [hgl]; exact hk)
     have h1:=hO.lt _ (.inr hx)
     have h2:=hgw.out
     exact (hO.row k (by rw [hgl]; exact hk)).at (hb3o.block _ (by omega))
   clear harr
   go_wp2_with fail
   refine bodyPost_ret (v:=.slice (some ⟨g,0,none⟩) M M) (by simp [results,SqP.results22,Tryz.results22,go_sem]) rfl ⟨g,gs,rfl,hR,hbo⟩
end Sp
end Go.Proofs.YtdhopelplokehaaGreat
