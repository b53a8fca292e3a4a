/- Of the proof: PGh -/
import Derived.Test.YtfbbcooklhmeaaaGreatLAx
import Derived.Test.YtfbbcooklhmeaaaGreatLAz
import Derived.Test.YtfbbcooklhmeaaaGreatLBf
set_option maxHeartbeats 2000000
set_option linter.unusedVariables false
namespace Go.Proofs.YtfbbcooklhmeaaaGreat
namespace Sp
open Go.RowKit
attribute [local go_sem ↓] Go.wp_at_zero Go.wp_at_succ
theorem zkl (wd:Int) (a:Option Addr) (cap:Nat) (cs:List (Int × Int)) (w:World) (h:zai w a cs) (hm:cs.length < 4611686018427387904) (hk:okG wd cs=false) :
  Calls SqP.prog 16 #[.agg #[.int .i64 wd,.slice a cs.length cap]] w fun e w'=>e=.returned (.tuple #[.agg #[.int .i64 0,.slice none 0 0,.slice none 0 0,.slice none 0 0],.bool false])/\Below w.heap.size w w':=by
 go_enter SqP.func16,SqP.ntmps16
 unfold zpR
 refine wp_seq (zpS wd a cap cs w h hm fun w1 u1 u2 u3 u4 u5 u6 u7 u8 u9 u10 u11 u12 u13 u14 u15 u16 u17 u18 u19 u20 u21 hb1=>wp_skip ?_)
 have hC:=h.below hb1
 have hz:=hb1.size
 show Code.wp _ _ _ _ _
 unfold zgv scG scN
 simp only [opr]
 go_wp2_with fail
 refine (zbB _ _ _ cs _ hC (by omega)).mono ?_
 rintro e w2 ⟨rfl,hb2⟩
 rw [hk]
 have hB2:=zak hb1 hz hb2
 go_wp2_with fail
 refine bodyPost_ret (v:=.tuple #[.agg #[.int .i64 0,.slice none 0 0,.slice none 0 0,.slice none 0 0],.bool false]) (by simp [results,SqP.results16,Tryz.results16,go_sem]) rfl ⟨rfl,hB2.alloc hB2.size _⟩
theorem zol:(SqP.prog.info? 29).map (fun i=>(i.zero,i.size,i.bytes))=some (some (.slice none 0 0),1,24):=by kernel_rfl
theorem zgs (n:Nat) (hn:n<=1048576) (w:World):(Instr.makeSlice 30 (.int .i64 (n:Int)) (.int .i64 (n:Int))).run SqP.prog w=.ok (.slice (some ⟨w.heap.size,0,none⟩) n n) (w.alloc (.cells (madeCells #[.slice none 0 0] n) 29)):=by
 obtain ⟨i0,hi,iz0,iz1,iz2⟩:=info_parts zol
 have:=run_make (P:=SqP.prog) w 30 29 i0 (.slice none 0 0) SqP.underlying30 hi iz0 .i64 .i64 (n:Int) (n:Int) (by omega) (by omega) (by rw [iz2]; omega) (by omega)
 rw [iz1] at this
 simpa [Value.cells] using this
theorem zqY (wd:Int) (a:Option Addr) (cap:Nat) (cs:List (Int × Int)) (w:World) (h:zai w a cs) (hm:cs.length<=1048576) (M k gc gl gf:Nat) (hkM:k < M) (hM:M<=20) (arrL arrF:Array Value) (hL:w.heap[gl]?=some (.cells arrL 3)) (hF:w.heap[gf]?=some (.cells arrF 29)) (hLs:arrL.size=M) (hFs:arrF.size=M) (hlf:gl ≠ gf)
  (hca:∀ b off,a=some ⟨b,off,none⟩->b ≠ gl/\b ≠ gf) (C:Nat) (hT:ziK w C) (hlen:(za0 wd cs k).length<=C) (u1 u2 u3 u4 u5 u11 u12 u13 u14 u15 u16 u17 u18 u19 u20 u21:Value)
  {Q:Exit->Act->World->Prop} (hK:∀ (v u11 u12 u13 u14 u15:Value) (w':World),zdu w' w.heap.size 3 v (za0 wd cs k)->(v=.slice none 0 0\/zbI v=C)->w'.heap[gl]?=some (.cells (arrL.setIfInBounds k (.int .i64 (zbc wd cs k))) 3)->w'.heap[gf]?=some (.cells (arrF.setIfInBounds k v) 29)->(∀ b,b < w.heap.size->b ≠ gl->b ≠ gf->w'.heap[b]?=w.heap[b]?)->w.heap.size<=w'.heap.size->w'.os=w.os/\w'.tape=w.tape/\w'.output=w.output->Q .normal ⟨#[.agg #[.int .i64 wd,.slice a cs.length cap],u1,u2,u3,u4,u5,.agg #[.int .i64 wd,.slice (some ⟨gc,0,none⟩) cs.length cs.length],.int .i64 (M:Int),.slice (some ⟨gl,0,none⟩) M M,.slice (some ⟨gf,0,none⟩) M M,.int .i64 ((k:Int) + 1),u11,u12,u13,u14,u15,u16,u17,u18,u19,u20,u21],[]⟩ w') :
  scL.wp SqP.prog Q ⟨#[.agg #[.int .i64 wd,.slice a cs.length cap],u1,u2,u3,u4,u5,.agg #[.int .i64 wd,.slice (some ⟨gc,0,none⟩) cs.length cs.length],.int .i64 (M:Int),.slice (some ⟨gl,0,none⟩) M M,.slice (some ⟨gf,0,none⟩) M M,.int .i64 ((k:Int)),u11,u12,u13,u14,u15,u16,u17,u18,u19,u20,u21],[]⟩ w:=by
 have bl:decide ((k:Int) < (M:Int))=true:=decide_eq_true (by omega)
 have wk:IntKind.i64.wrap ((k:Int) + 1)=(k:Int) + 1:=IntWalk.i64_in _ (by omega)
 have hgl:=(gei hL).1
 have hgf:=(gei hF).1
 have HL:Hid (w.heap[gl]?=some (.cells arrL 3)):=hL
 have HF:Hid (w.heap[gf]?=some (.cells arrF 29)):=hF
 clear hL hF
 unfold scL
 simp only [opr]
 go_wp2_with fail
 refine (zcr wd a cap cs w h hm k).mono ?_
 rintro e w1 ⟨rfl,hb1⟩
 obtain ⟨lt,elt⟩:∃ lt,zbc wd cs (k:Int)=lt:=⟨_,rfl⟩
 rw [elt]
 have hL1:w1.heap[gl]?=some (.cells arrL 3):=(hb1.block gl hgl).trans HL.out
 have hF1:w1.heap[gf]?=some (.cells arrF 29):=(hb1.block gf hgf).trans HF.out
 have cl:w1.cell? ⟨gl,k,none⟩=some arrL[k]:=by rw [cell_of_row _ _ _ _ _ _ hL1]; exact Array.getElem?_eq_getElem (by omega)
 have fl:w1.frozen? ⟨gl,k,none⟩=false:=frozen_of_row _ _ _ _ _ hL1
 have hL2:(w1.setCell ⟨gl,k,none⟩ (.int .i64 lt)).heap[gl]?=some (.cells (arrL.setIfInBounds k (.int .i64 lt)) 3):=heap_setCell_same w1 gl k _ _ _ hL1
 have hF2:(w1.setCell ⟨gl,k,none⟩ (.int .i64 lt)).heap[gf]?=some (.cells arrF 29):=(Below.heap_setCell _ _ _ _ (fun e=>hlf e.symm)).trans hF1
 have hC2:zai (w1.setCell ⟨gl,k,none⟩ (.int .i64 lt)) a cs:=by
  rcases h.below hb1 with q | ⟨b,off,rfl,hbl,hc⟩
  ·exact .inl q
  ·refine .inr ⟨b,off,rfl,by simpa using hbl,fun i hi=>?_⟩
   have hne:=(hca b off rfl).1
   rw [World.cell?_of_block (w:=w1) (a:=⟨b,_,none⟩) (Below.heap_setCell _ _ _ _ hne),World.cell?_of_block (w:=w1) (a:=⟨b,_,none⟩) (Below.heap_setCell _ _ _ _ hne)]
   exact hc i hi
 have hT2:ziK (w1.setCell ⟨gl,k,none⟩ (.int .i64 lt)) C:=⟨fun i q=>by rw [show (w1.setCell ⟨gl,k,none⟩ (.int .i64 lt)).tape=w1.tape from rfl,hb1.tape]; exact hT.1 i q,hT.2⟩
 have hz1:=hb1.size
 have hfr2:∀ b,b < w.heap.size->b ≠ gl->(w1.setCell ⟨gl,k,none⟩ (.int .i64 lt)).heap[b]?=w.heap[b]?:=fun b hb hne=>(Below.heap_setCell _ _ _ _ hne).trans (hb1.block b hb)
 have hsz2:w1.heap.size<=(w1.setCell ⟨gl,k,none⟩ (.int .i64 lt)).heap.size:=by simp
 go_wp2_with fail
 obtain ⟨w2,hw2⟩:∃ w2,w2=w1.setCell ⟨gl,k,none⟩ (.int .i64 lt):=⟨_,rfl⟩
 have ho2:w2.os=w.os/\w2.tape=w.tape/\w2.output=w.output:=by rw [hw2]; exact ⟨hb1.os,hb1.tape,hb1.output⟩
 rw [<- hw2] at hL2 hF2 hC2 hT2 hfr2 hsz2 ⊢
 clear hw2 cl fl hL1 hF1 hb1 HL HF
 refine (zed wd a cap cs w2 hC2 hm k).mono ?_
 rintro e w3 ⟨v,rfl,hZ,hrm,hb3⟩
 have hvs:∃ xa xn xc,v=.slice xa xn xc:=by
  rcases hZ with ⟨q,_⟩ | ⟨g,c,q,_⟩
  ·exact ⟨_,_,_,q⟩
  ·exact ⟨_,_,_,q⟩
 obtain ⟨xa,xn,xc,rfl⟩:=hvs
 have hz3:=hb3.size
 have hL3:w3.heap[gl]?=some (.cells (arrL.setIfInBounds k (.int .i64 lt)) 3):=(hb3.block gl (by omega)).trans hL2
 have hF3:w3.heap[gf]?=some (.cells arrF 29):=(hb3.block gf (by omega)).trans hF2
 have cf:w3.cell? ⟨gf,k,none⟩=some arrF[k]:=by rw [cell_of_row _ _ _ _ _ _ hF3]; exact Array.getElem?_eq_getElem (by omega)
 have ff:w3.frozen? ⟨gf,k,none⟩=false:=frozen_of_row _ _ _ _ _ hF3
 have hL4:(w3.setCell ⟨gf,k,none⟩ (.slice xa xn xc)).heap[gl]?=some (.cells (arrL.setIfInBounds k (.int .i64 lt)) 3):=(Below.heap_setCell _ _ _ _ hlf).trans hL3
 have hF4:(w3.setCell ⟨gf,k,none⟩ (.slice xa xn xc)).heap[gf]?=some (.cells (arrF.setIfInBounds k (.slice xa xn xc)) 29):=heap_setCell_same w3 gf k _ _ _ hF3
 have hfr4:∀ b,b < w.heap.size->b ≠ gl->b ≠ gf->(w3.setCell ⟨gf,k,none⟩ (.slice xa xn xc)).heap[b]?=w.heap[b]?:=fun b hb h1 h2=>((Below.heap_setCell _ _ _ _ h2).trans (hb3.block b (by omega))).trans (hfr2 b hb h1)
 have hZ4:zdu (w3.setCell ⟨gf,k,none⟩ (.slice xa xn xc)) w.heap.size 3 (.slice xa xn xc) (za0 wd cs k):=by
  rcases hZ with q | ⟨g,c,q1,q2,q3,q4,q5,q6⟩
  ·exact .inl q
  ·exact .inr ⟨g,c,q1,by omega,q3,q4,q5,(Below.heap_setCell _ _ _ _ (by show g ≠ gf; omega)).trans q6⟩
 have hrm4:=hrm C hT2 hlen
 have ho4:(w3.setCell ⟨gf,k,none⟩ (.slice xa xn xc)).os=w.os/\(w3.setCell ⟨gf,k,none⟩ (.slice xa xn xc)).tape=w.tape/\(w3.setCell ⟨gf,k,none⟩ (.slice xa xn xc)).output=w.output:=⟨hb3.os.trans ho2.1,hb3.tape.trans ho2.2.1,hb3.output.trans ho2.2.2⟩
 have hsz4:w.heap.size<=(w3.setCell ⟨gf,k,none⟩ (.slice xa xn xc)).heap.size:=by simp; omega
 subst elt
 clear hL3 hF3 hb3 hZ hrm
 go_wp2_with fail
 exact hK _ _ _ _ _ _ _ hZ4 hrm4 hL4 hF4 hfr4 hsz4 ho4
theorem zqb (wd:Int) (a:Option Addr) (cap:Nat) (cs:List (Int × Int)) (w:World) (M gc gl gf:Nat) (u1 u2 u3 u4 u5 u11 u12 u13 u14 u15 u16 u17 u18 u19 u20 u21:Value) {Q:Exit->Act->World->Prop} (hK:∀ u11,Q (.exit 1) ⟨#[.agg #[.int .i64 wd,.slice a cs.length cap],u1,u2,u3,u4,u5,.agg #[.int .i64 wd,.slice (some ⟨gc,0,none⟩) cs.length cs.length],.int .i64 (M:Int),.slice (some ⟨gl,0,none⟩) M M,.slice (some ⟨gf,0,none⟩) M M,.int .i64 ((M:Int)),u11,u12,u13,u14,u15,u16,u17,u18,u19,u20,u21],[]⟩ w) :
  scL.wp SqP.prog Q ⟨#[.agg #[.int .i64 wd,.slice a cs.length cap],u1,u2,u3,u4,u5,.agg #[.int .i64 wd,.slice (some ⟨gc,0,none⟩) cs.length cs.length],.int .i64 (M:Int),.slice (some ⟨gl,0,none⟩) M M,.slice (some ⟨gf,0,none⟩) M M,.int .i64 ((M:Int)),u11,u12,u13,u14,u15,u16,u17,u18,u19,u20,u21],[]⟩ w:=by
 have bl:decide ((M:Int) < (M:Int))=false:=decide_eq_false (by omega)
 unfold scL
 simp only [opr]
 go_wp2_with fail
 exact hK _
theorem zpB (wd:Int) (a:Option Addr) (cap:Nat) (cs:List (Int × Int)) (w:World) (h:zai w a cs) (hm:cs.length < 4611686018427387904) (hk:okG wd cs=true) (u1 u2 u3 u4 u5 u6 u7 u8 u9 u10 u11 u12 u13 u14 u15 u16 u17 u18 u19 u20 u21:Value) {Q:Exit->Act->World->Prop} (hK:∀ w',Below w.heap.size w w'->Q .normal ⟨#[.agg #[.int .i64 wd,.slice a cs.length cap],u1,u2,.bool true,u4,u5,u6,u7,u8,u9,u10,u11,u12,u13,u14,u15,u16,u17,u18,u19,u20,u21],[]⟩ w') :
  scG.wp SqP.prog Q ⟨#[.agg #[.int .i64 wd,.slice a cs.length cap],u1,u2,u3,u4,u5,u6,u7,u8,u9,u10,u11,u12,u13,u14,u15,u16,u17,u18,u19,u20,u21],[]⟩ w:=by
 have HK:Hid (∀ w',Below w.heap.size w w'->Q .normal ⟨#[.agg #[.int .i64 wd,.slice a cs.length cap],u1,u2,.bool true,u4,u5,u6,u7,u8,u9,u10,u11,u12,u13,u14,u15,u16,u17,u18,u19,u20,u21],[]⟩ w'):=hK
 unfold scG
 simp only [opr]
 go_wp2_with fail
 refine (zbB _ _ _ cs _ h (by omega)).mono ?_
 rintro e w2 ⟨rfl,hb2⟩
 rw [hk]
 go_wp2_with fail
 first | exact hb2 | exact HK.out _ hb2
theorem zpA (wd:Int) (a:Option Addr) (cap:Nat) (cs:List (Int × Int)) (w:World) (h:zai w a cs) (hm:cs.length<=1048576) (hl:0 < cs.length) (M:Nat) (hM:zcg wd cs=(M:Int)) (hM20:M<=20) (u1 u2 u3 u4 u5 u6 u7 u8 u9 u10 u11 u12 u13 u14 u15 u16 u17 u18 u19 u20 u21:Value) {Q:Exit->Act->World->Prop}
  (hK:∀ (gc gl gf:Nat) (w':World),Own w' w.heap.size (.slice (some ⟨gc,0,none⟩) cs.length cs.length) cs->w'.heap[gl]?=some (.cells (madeCells #[.int .i64 0] M) 3)->w'.heap[gf]?=some (.cells (madeCells #[.slice none 0 0] M) 29)->w.heap.size<=gc->gc < gl->gl < gf->Below w.heap.size w w'->Q .normal ⟨#[.agg #[.int .i64 wd,.slice a cs.length cap],u1,u2,u3,u4,u5,.agg #[.int .i64 wd,.slice (some ⟨gc,0,none⟩) cs.length cs.length],.int .i64 (M:Int),.slice (some ⟨gl,0,none⟩) M M,.slice (some ⟨gf,0,none⟩) M M,.int .i64 (0),u11,u12,u13,u14,u15,u16,u17,u18,u19,u20,u21],[]⟩ w') :
  scA.wp SqP.prog Q ⟨#[.agg #[.int .i64 wd,.slice a cs.length cap],u1,u2,u3,u4,u5,u6,u7,u8,u9,u10,u11,u12,u13,u14,u15,u16,u17,u18,u19,u20,u21],[]⟩ w:=by
 have hmk:=(zj6 (aLt:=Sq.altP)) M (by omega)
 have hmk2:=zgs M (by omega)
 have HM:Hid (zcg wd cs=(M:Int)):=hM
 clear hM
 unfold scA
 simp only [opr]
 go_wp2_with fail
 refine (zem wd a cap cs w h hm hl).mono ?_
 rintro e w1 ⟨gc,rfl,hO1,hb1⟩
 have hz1:=hb1.size
 have hgc:=hO1.lt
 go_wp2_with fail
 refine (zcM wd a cap cs w1 (h.below hb1) hm).mono ?_
 rintro e w2 ⟨rfl,hb2⟩
 rw [HM.out]
 have hz2:=hb2.size
 have hB2:=zak hb1 hz1 hb2
 have hO2:=hO1.below hb2
 go_wp2_with fail
 have hbA:Below w2.heap.size w2 ((w2.alloc (.cells (madeCells #[.int .i64 0] M) 3)).alloc (.cells (madeCells #[.slice none 0 0] M) 29)):=bel
 refine hK gc w2.heap.size (w2.heap.size + 1) _ (hO2.below hbA) ?_ ?_ hgc.1 (by omega) (by omega) (zak hB2 hB2.size hbA)
 ·rw [Below.heap_alloc _ _ _ (by simp)]
  exact heap_alloc_new w2 _
 ·have:=heap_alloc_new (w2.alloc (.cells (madeCells #[.int .i64 0] M) 3)) (.cells (madeCells #[.slice none 0 0] M) 29)
  simpa using this
theorem zqZ (wd:Int) (a:Option Addr) (cap:Nat) (cs:List (Int × Int)) (w:World) (M gc gl gf:Nat) (u1 u2 u3 u4 u5 u11 u12 u13 u14 u15 u16 u17 u18 u19 u20 u21:Value) {Q:Exit->Act->World->Prop}
  (hK:∀ (a':Act) (w':World),a'.defers=[]->Below w.heap.size w w'->(results (zlb Tryz.f16) a'.tmps).run SqP.prog w'=.ok (.tuple #[.agg #[.int .i64 wd,.slice (some ⟨gc,0,none⟩) cs.length cs.length,.slice (some ⟨gl,0,none⟩) M M,.slice (some ⟨gf,0,none⟩) M M],.bool true]) w'->Q .ret a' w') :
  (Code.seq scZ .ret).wp SqP.prog Q ⟨#[.agg #[.int .i64 wd,.slice a cs.length cap],u1,u2,u3,u4,u5,.agg #[.int .i64 wd,.slice (some ⟨gc,0,none⟩) cs.length cs.length],.int .i64 (M:Int),.slice (some ⟨gl,0,none⟩) M M,.slice (some ⟨gf,0,none⟩) M M,.int .i64 ((M:Int)),u11,u12,u13,u14,u15,u16,u17,u18,u19,u20,u21],[]⟩ w:=by
 unfold scZ
 simp only [opr]
 go_wp2_with fail
 refine hK _ _ rfl bel ?_
 simp [results,SqP.results16,Tryz.results16,go_sem]
end Sp
end Go.Proofs.YtfbbcooklhmeaaaGreat
