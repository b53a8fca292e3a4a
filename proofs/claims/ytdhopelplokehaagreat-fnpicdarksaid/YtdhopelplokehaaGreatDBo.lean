/- Of the proof: PGq -/
import Derived.Test.YtdhopelplokehaaGreatDBn
set_option maxHeartbeats 2000000
set_option linter.unusedVariables false
namespace Go.Proofs.YtdhopelplokehaaGreat
namespace Sp
open Go.RowKit
attribute [local go_sem ↓] Go.wp_at_zero Go.wp_at_succ
theorem picNo_any (wd:Int) (a:Option Addr) (cap:Nat) (cs:List (Int × Int)) (w:World) (h:CellsAt w a cs) (hm:cs.length < 4611686018427387904) (hk:okG wd cs=false) :
  Calls SqP.prog 12 #[.agg #[.int .i64 wd,.slice a cs.length cap]] w fun e w'=>e=.returned (.slice none 0 0)/\Below w.heap.size w w':=by
 go_enter SqP.func12,SqP.ntmps12
 refine ck_go wd a cap cs w h hm fun w1 u1 u2 u3 u4 u5 u6 u7 u8 u9 u10 u11 u12 u13 u14 u15 u16 u17 u18 u19 u20 u21 hb1=>?_
 have hC:=h.below hb1
 have hz:=hb1.size
 unfold picRest picL
 simp only [opr]
 go_wp2_with fail
 refine (specGridOk_any _ _ _ cs _ hC (by omega)).mono ?_
 rintro e w2 ⟨rfl,hb2⟩
 rw [hk]
 have hB2:=bcall hb1 hz hb2
 go_wp2_with fail
 refine bodyPost_ret (v:=.slice none 0 0) (by simp [results,SqP.results12,Tryz.results12,go_sem]) rfl ⟨rfl,hB2⟩
theorem infoIntG:(SqP.prog.info? 3).map (fun i=>(i.zero,i.size,i.bytes))=some (some (.int .i64 0),1,8):=by kernel_rfl
theorem make_ints (n:Nat) (hn:n<=1048576) (w:World):(Instr.makeSlice 27 (.int .i64 (n:Int)) (.int .i64 (n:Int))).run SqP.prog w=.ok (.slice (some ⟨w.heap.size,0,none⟩) n n) (w.alloc (.cells (madeCells #[.int .i64 0] n) 3)):=by
 obtain ⟨i0,hi,iz0,iz1,iz2⟩:=info_parts infoIntG
 have:=run_make (P:=SqP.prog) w 27 3 i0 (.int .i64 0) SqP.underlying27 hi iz0 .i64 .i64 (n:Int) (n:Int) (by omega) (by omega) (by rw [iz2]; omega) (by omega)
 rw [iz1] at this
 simpa [Value.cells] using this
abbrev picCells (wd:Int) (cs:List (Int × Int)) (M:Nat):Obj:=.cells (Array.ofFn fun k:Fin M=>.int .i64 (lightN wd cs ((k:Nat):Int))) 3
theorem picYes_any (wd:Int) (a:Option Addr) (cap:Nat) (cs:List (Int × Int)) (w:World) (h:CellsAt w a cs) (hk:okG wd cs=true) (M:Nat) (hM:manyG wd cs=(M:Int)) :
  Calls SqP.prog 12 #[.agg #[.int .i64 wd,.slice a cs.length cap]] w fun e w'=>∃ g,e=.returned (.slice (some ⟨g,0,none⟩) M M)/\w.heap.size<=g/\w'.heap[g]?=some (picCells wd cs M)/\Below w.heap.size w w':=by
 have hn:cs.length<=25:=by
  obtain ⟨W,H,rfl,h1,h2,h3,h4,el,hH,hHI⟩:=okG_nat wd cs hk
  rw [el]; exact Nat.le_trans (Nat.mul_le_mul h2 h4) (by omega)
 have hM20:M<=20:=by
  obtain ⟨W,H,rfl,h1,h2,h3,h4,el,hH,hHI⟩:=okG_nat wd cs hk
  rw [manyG_ok hk hHI] at hM
  omega
 have EM:Hid (manyG wd cs=(M:Int)):=hM
 have HK:Hid (okG wd cs=true):=hk
 have hmk:=make_ints M (by omega)
 clear hM hk
 go_enter SqP.func12,SqP.ntmps12
 refine ck_go wd a cap cs w h (by omega) fun w1 u1 u2 u3 u4 u5 u6 u7 u8 u9 u10 u11 u12 u13 u14 u15 u16 u17 u18 u19 u20 u21 hb1=>?_
 have hC:=h.below hb1
 have hz:=hb1.size
 unfold picRest picL
 simp only [opr]
 go_wp2_with fail
 refine (specGridOk_any _ _ _ cs _ hC (by omega)).mono ?_
 rintro e w2 ⟨rfl,hb2⟩
 rw [HK.out]
 have hB2:=bcall hb1 hz hb2
 replace hC:=hC.below hb2
 have hz2:=hB2.size
 clear hb1 hb2
 go_wp2_with fail
 refine (specPicOf_any _ _ _ cs _ hC (by omega)).mono ?_
 rintro e w3 ⟨v3,rfl,hO3,hb3⟩
 have hpl:(picN wd cs).length=M:=by unfold picN; rw [picK_len,EM.out]; rfl
 obtain ⟨a3,c3,e3,hR3⟩:=row1_at hO3
 rw [hpl] at e3
 subst e3
 have hnew3:∀ b off,a3=some ⟨b,off,none⟩->w2.heap.size<=b/\b < w3.heap.size:=fun b off e=>by
  subst e
  exact World.ownsRow.lt hO3 b rfl
 have hRv:∀ k,k < M->∃ b off,a3=some ⟨b,off,none⟩/\w3.cell? ⟨b,off + k,none⟩=some (.int .i64 (lightN wd cs (k:Int))):=fun k hk=>by
  obtain ⟨b,off,e,_,hc⟩:=hR3.at (i:=k) (by rw [hpl]; exact hk)
  refine ⟨b,off,e,?_⟩
  rw [hc]
  have hq:picN wd cs=(List.range M).map fun (k:Nat)=>lightN wd cs (k:Int):=by unfold picN picK; rw [EM.out]; rfl
  rw [hq]
  simp [List.getD,hk]
 have HRV:Hid (∀ k,k < M->∃ b off,a3=some ⟨b,off,none⟩/\w3.cell? ⟨b,off + k,none⟩=some (.int .i64 (lightN wd cs (k:Int)))):=hRv
 have hB3:=bcall hB2 hz2 hb3
 have hz3:=hB3.size
 clear hb3 hB2 hO3 hR3 hRv hpl
 have hbA:Below w3.heap.size w3 (w3.alloc (.cells (madeCells #[.int .i64 0] M) 3)):=(Below.refl _ _).alloc (Nat.le_refl _) _
 have hB4:=bcall hB3 hz3 hbA
 have hA0:(w3.alloc (.cells (madeCells #[.int .i64 0] M) 3)).heap[w3.heap.size]?=some (.cells (madeCells #[.int .i64 0] M) 3):=heap_alloc_new w3 _
 go_wp2_with fail
 obtain ⟨w4,hw4⟩:∃ w4,w4=w3.alloc (.cells (madeCells #[.int .i64 0] M) 3):=⟨_,rfl⟩
 rw [<- hw4] at hB4 hA0 hbA ⊢
 clear hw4 hmk hB3 hC
 obtain ⟨g,hg⟩:∃ g,w3.heap.size=g:=⟨_,rfl⟩
 rw [hg] at hA0 hz3 hbA hnew3 ⊢
 have hgw:w3.heap.size=g:=hg
 clear hg
 have hsz0:(madeCells #[Value.int .i64 0] M).size=M:=by simp [madeCells]
 go_loopw [6,7,8,9,11] (fun kk _ _ _ _ wr=>∃ (k:Nat) (arr:Array Value),k<=M/\kk=.int .i64 k/\Below w.heap.size w wr/\Below g w3 wr/\wr.heap[g]?=some (.cells arr 3)/\arr.size=M/\∀ j,j < k->arr[j]?=some (.int .i64 (lightN wd cs (j:Int)))) (fun kk _ _ _ _ _=>M - (intOf kk).toNat)
 case atStart=>exact ⟨0,_,Nat.zero_le _,rfl,hB4,hbA,hA0,hsz0,fun j hj=>by omega⟩
 case round =>
  rename World=>wo
  obtain ⟨k,arr,hk,rfl,hbo,hb3o,hg,hsz,harr⟩:=hrel
  by_cases hlt:k < M
  ·have bl:decide ((k:Int) < (M:Int))=true:=decide_eq_true (by omega)
   have wk:IntKind.i64.wrap ((k:Int) + 1)=(k:Int) + 1:=IntWalk.i64_in _ (by omega)
   have hgl:g < wo.heap.size:=(Array.getElem?_eq_some_iff.1 hg).1
   obtain ⟨x,hx⟩:∃ x,lightN wd cs (k:Int)=x:=⟨_,rfl⟩
   have HX:Hid (lightN wd cs (k:Int)=x):=hx
   obtain ⟨b3,off3,ea3,hcx⟩:=HRV.out k hlt
   rw [hx] at hcx
   have hb3l:=(hnew3 b3 off3 ea3).2
   have y0:wo.cell? ⟨b3,off3 + k,none⟩=some (.int .i64 x):=by
    rw [World.cell?_of_block (w:=w3) (hb3o.block b3 (by omega))]
    exact hcx
   subst ea3
   clear hx hcx
   have hk5:k < arr.size:=by omega
   have c5:wo.cell? ⟨g,k,none⟩=some arr[k]:=by rw [cell_of_row _ _ _ _ _ _ hg]; exact Array.getElem?_eq_getElem hk5
   have f5:wo.frozen? ⟨g,k,none⟩=false:=frozen_of_row _ _ _ _ _ hg
   have hb6:Below w.heap.size w (wo.setCell ⟨g,k,none⟩ (.int .i64 x)):=hbo.setCell (p:=⟨g,k,none⟩) (by show w.heap.size<=g; omega) _
   have hb36:Below g w3 (wo.setCell ⟨g,k,none⟩ (.int .i64 x)):=hb3o.setCell (p:=⟨g,k,none⟩) (Nat.le_refl _) _
   have hg6:(wo.setCell ⟨g,k,none⟩ (.int .i64 x)).heap[g]?=some (.cells (arr.setIfInBounds k (.int .i64 x)) 3):=heap_setCell_same wo g k _ _ _ hg
   have harr6:∀ j,j < k + 1->(arr.setIfInBounds k (.int .i64 x))[j]?=some (.int .i64 (lightN wd cs (j:Int))):=fun j hj=>by
    by_cases e:j=k
    ·subst e
     rw [Array.getElem?_setIfInBounds_self_of_lt hk5,HX.out]
    ·rw [Array.getElem?_setIfInBounds_ne (by omega)]
     exact harr j (by omega)
   clear harr hbo hg hb3o
   go_wp2_with fail
   go_roundw
   case rel=>exact ⟨k + 1,_,by omega,by go_num,hb6,hb36,hg6,by simpa using hsz,harr6⟩
   case measure=>simp [intOf]; omega
  ·have bl:decide ((k:Int) < (M:Int))=false:=decide_eq_false (by omega)
   have hfin:wo.heap[g]?=some (picCells wd cs M):=by
    rw [hg]
    refine congrArg (fun x=>some (Obj.cells x 3)) (Array.ext (by simp [hsz]) fun j h1 h2=>?_)
    have:=harr j (by omega)
    rw [Array.getElem?_eq_getElem h1] at this
    simpa using this
   go_wp2_with fail
   refine bodyPost_ret (v:=.slice (some ⟨g,0,none⟩) M M) (by simp [results,SqP.results12,Tryz.results12,go_sem]) rfl ⟨g,rfl,by omega,hfin,hbo⟩
end Sp
end Go.Proofs.YtdhopelplokehaaGreat
