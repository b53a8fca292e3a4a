/- Part. -/
import Derived.Test.YthfhlgdeghnggaaGreatTAu
import Derived.Test.YthfhlgdeghnggaaGreatTBb
import Derived.Test.YthfhlgdeghnggaaGreatTBc
set_option maxHeartbeats 4000000
set_option linter.unusedVariables false
namespace Go.Proofs.YthfhlgdeghnggaaGreat
variable{arrF arrL:Array Value}{wd:Int}{cs:List (Int × Int)}{xs:Nat->Value}{w w':World}
namespace Sp
open Go.RowKit
attribute [local go_sem ↓] Go.wp_at_zero Go.wp_at_succ
theorem zla(wd:Int)(a:Option Addr)(cap:Nat)(cs:List (Int × Int))(w:World)(h:zak w a cs)(hm:cs.length<4611686018427387904)(hk:okG wd cs=false) :
  Calls SqP.prog 54 #[.agg #[.int .i64 wd,.slice a cs.length cap]] w fun e w'=>e=.returned (.tuple #[.agg #[.int .i64 0,.slice none 0 0,.slice none 0 0,.slice none 0 0],.bool false])/\Below w.heap.size w w':=by
 go_enter SqP.func54,SqP.ntmps54
 unfold zrr
 refine wp_seq (zrs wd a cap cs w h hm fun w1 u1 u2 u3 u4 u5 u6 u7 u8 u9 u10 u11 u12 u13 u14 u15 u16 u17 u18 u19 u20 u21 hb1=>wp_skip ?_)
 have hC:=h.below hb1
 have hz:=hb1.size
 show Code.wp _ _ _ _ _
 unfold zgW scG scN
 simp only[opr]
 go_wp2_with fail
 refine(zbD _ _ _ cs _ hC (by omega)).mono ?_
 rintro e w2 ⟨rfl,hb2⟩
 rw[hk]
 have hB2:=zaj hb1 hz hb2
 go_wp2_with fail
 refine bodyPost_ret (v:=.tuple #[.agg #[.int .i64 0,.slice none 0 0,.slice none 0 0,.slice none 0 0],.bool false]) (by simp[results,SqP.results54,Tryz.results54,go_sem]) rfl ⟨rfl,hB2.alloc hB2.size _⟩
theorem zpM:(SqP.prog.info? 25).map (fun i=>(i.zero,i.size,i.bytes))=some (some (.slice none 0 0),1,24):=by kernel_rfl
theorem zgS(n:Nat)(hn:n<=1048576)(w:World):(Instr.makeSlice 26 (.int .i64 (n:Int)) (.int .i64 (n:Int))).run SqP.prog w=.ok (.slice (some ⟨w.heap.size,0,none⟩) n n) (w.alloc (.cells (madeCells #[.slice none 0 0] n) 25)):=by
 obtain⟨i0,hi,iz0,iz1,iz2⟩:=info_parts zpM
 have:=run_make (P:=SqP.prog) w 26 25 i0 (.slice none 0 0) SqP.underlying26 hi iz0 .i64 .i64 (n:Int) (n:Int) (by omega) (by omega) (by rw[iz2];omega) (by omega)
 rw[iz1] at this
 simpa [Value.cells] using this
theorem zsx(wd:Int)(a:Option Addr)(cap:Nat)(cs:List (Int × Int))(w:World)(h:zak w a cs)(hm:cs.length<=1048576)(M k gc gl gf:Nat)(hkM:k<M)(hM:M<=20)(arrL arrF:Array Value)(hL:w.heap[gl]?=some (.cells arrL 3))(hF:w.heap[gf]?=some (.cells arrF 25))(hLs:arrL.size=M)(hFs:arrF.size=M)(hlf:gl≠gf)(hca:∀ b off,a=some ⟨b,off,none⟩->b≠gl/\b≠gf)(C:Nat)(hT:zjp w C)(hlen:(zaL wd cs k).length<=C)(u1 u2 u3 u4 u5 u11 u12 u13 u14 u15 u16 u17 u18 u19 u20 u21:Value){Q:Exit->Act->World->Prop}(hK:∀(v u11 u12 u13 u14 u15:Value) (w':World),zdL w' w.heap.size 3 v (zaL wd cs k)->(v=.slice none 0 0\/zbK v=C)->w'.heap[gl]?=some (.cells (arrL.setIfInBounds k (.int .i64 (za3 wd cs k))) 3)->w'.heap[gf]?=some (.cells (arrF.setIfInBounds k v) 25)->(∀ b,b<w.heap.size->b≠gl->b≠gf->w'.heap[b]?=w.heap[b]?)->w.heap.size<=w'.heap.size->w'.os=w.os/\w'.tape=w.tape/\w'.output=w.output->Q .normal ⟨#[.agg #[.int .i64 wd,.slice a cs.length cap],u1,u2,u3,u4,u5,.agg #[.int .i64 wd,.slice (some ⟨gc,0,none⟩) cs.length cs.length],.int .i64 (M:Int),.slice (some ⟨gl,0,none⟩) M M,.slice (some ⟨gf,0,none⟩) M M,.int .i64 ((k:Int)+1),u11,u12,u13,u14,u15,u16,u17,u18,u19,u20,u21],[]⟩ w') :
  scL.wp SqP.prog Q ⟨#[.agg #[.int .i64 wd,.slice a cs.length cap],u1,u2,u3,u4,u5,.agg #[.int .i64 wd,.slice (some ⟨gc,0,none⟩) cs.length cs.length],.int .i64 (M:Int),.slice (some ⟨gl,0,none⟩) M M,.slice (some ⟨gf,0,none⟩) M M,.int .i64 ((k:Int)),u11,u12,u13,u14,u15,u16,u17,u18,u19,u20,u21],[]⟩ w:=by
 have bl:decide ((k:Int)<(M:Int))=true:=decide_eq_true (by omega)
 have wk:IntKind.i64.wrap ((k:Int)+1)=(k:Int)+1:=IntWalk.i64_in _ (by omega)
 have hgl:=(gei hL).1
 have hgf:=(gei hF).1
 have HL:Hid (w.heap[gl]?=some (.cells arrL 3)):=hL
 have HF:Hid (w.heap[gf]?=some (.cells arrF 25)):=hF
 clear hL hF
 unfold scL
 simp only[opr]
 go_wp2_with fail
 refine(zcC wd a cap cs w h hm k).mono ?_
 rintro e w1 ⟨rfl,hb1⟩
 obtain⟨lt,elt⟩:∃ lt,za3 wd cs (k:Int)=lt:=⟨_,rfl⟩
 rw[elt]
 have hL1:w1.heap[gl]?=some (.cells arrL 3):=(hb1.block gl hgl).trans HL.out
 have hF1:w1.heap[gf]?=some (.cells arrF 25):=(hb1.block gf hgf).trans HF.out
 have cl:w1.cell? ⟨gl,k,none⟩=some arrL[k]:=by rw[cell_of_row _ _ _ _ _ _ hL1];exact Array.getElem?_eq_getElem (by omega)
 have fl:w1.frozen? ⟨gl,k,none⟩=false:=frozen_of_row _ _ _ _ _ hL1
 have hL2:(w1.setCell ⟨gl,k,none⟩ (.int .i64 lt)).heap[gl]?=some (.cells (arrL.setIfInBounds k (.int .i64 lt)) 3):=heap_setCell_same w1 gl k _ _ _ hL1
 have hF2:(w1.setCell ⟨gl,k,none⟩ (.int .i64 lt)).heap[gf]?=some (.cells arrF 25):=(Below.heap_setCell _ _ _ _ (fun e=>hlf e.symm)).trans hF1
 have hC2:zak (w1.setCell ⟨gl,k,none⟩ (.int .i64 lt)) a cs:=by
  rcases h.below hb1 with q|⟨b,off,rfl,hbl,hc⟩
  ·exact .inl q
  ·refine .inr ⟨b,off,rfl,by simpa using hbl,fun i hi=>?_⟩
   have hne:=(hca b off rfl).1
   rw[World.cell?_of_block (w:=w1) (a:=⟨b,_,none⟩) (Below.heap_setCell _ _ _ _ hne),World.cell?_of_block (w:=w1) (a:=⟨b,_,none⟩) (Below.heap_setCell _ _ _ _ hne)]
   exact hc i hi
 have hT2:zjp (w1.setCell ⟨gl,k,none⟩ (.int .i64 lt)) C:=⟨fun i q=>by rw[show (w1.setCell ⟨gl,k,none⟩ (.int .i64 lt)).tape=w1.tape from rfl,hb1.tape];exact hT.1 i q,hT.2⟩
 have hz1:=hb1.size
 have hfr2:∀ b,b<w.heap.size->b≠gl->(w1.setCell ⟨gl,k,none⟩ (.int .i64 lt)).heap[b]?=w.heap[b]?:=fun b hb hne=>(Below.heap_setCell _ _ _ _ hne).trans (hb1.block b hb)
 have hsz2:w1.heap.size<=(w1.setCell ⟨gl,k,none⟩ (.int .i64 lt)).heap.size:=by simp
 go_wp2_with fail
 obtain⟨w2,hw2⟩:∃ w2,w2=w1.setCell ⟨gl,k,none⟩ (.int .i64 lt):=⟨_,rfl⟩
 have ho2:w2.os=w.os/\w2.tape=w.tape/\w2.output=w.output:=by rw[hw2];exact⟨hb1.os,hb1.tape,hb1.output⟩
 rw[<- hw2] at hL2 hF2 hC2 hT2 hfr2 hsz2 ⊢
 clear hw2 cl fl hL1 hF1 hb1 HL HF
 refine(zeA wd a cap cs w2 hC2 hm k).mono ?_
 rintro e w3 ⟨v,rfl,hZ,hrm,hb3⟩
 have hvs:∃ xa xn xc,v=.slice xa xn xc:=by
  rcases hZ with ⟨q,_⟩|⟨g,c,q,_⟩
  ·exact⟨_,_,_,q⟩
  ·exact⟨_,_,_,q⟩
 obtain⟨xa,xn,xc,rfl⟩:=hvs
 have hz3:=hb3.size
 have hL3:w3.heap[gl]?=some (.cells (arrL.setIfInBounds k (.int .i64 lt)) 3):=(hb3.block gl (by omega)).trans hL2
 have hF3:w3.heap[gf]?=some (.cells arrF 25):=(hb3.block gf (by omega)).trans hF2
 have cf:w3.cell? ⟨gf,k,none⟩=some arrF[k]:=by rw[cell_of_row _ _ _ _ _ _ hF3];exact Array.getElem?_eq_getElem (by omega)
 have ff:w3.frozen? ⟨gf,k,none⟩=false:=frozen_of_row _ _ _ _ _ hF3
 have hL4:(w3.setCell ⟨gf,k,none⟩ (.slice xa xn xc)).heap[gl]?=some (.cells (arrL.setIfInBounds k (.int .i64 lt)) 3):=(Below.heap_setCell _ _ _ _ hlf).trans hL3
 have hF4:(w3.setCell ⟨gf,k,none⟩ (.slice xa xn xc)).heap[gf]?=some (.cells (arrF.setIfInBounds k (.slice xa xn xc)) 25):=heap_setCell_same w3 gf k _ _ _ hF3
 have hfr4:∀ b,b<w.heap.size->b≠gl->b≠gf->(w3.setCell ⟨gf,k,none⟩ (.slice xa xn xc)).heap[b]?=w.heap[b]?:=fun b hb h1 h2=>((Below.heap_setCell _ _ _ _ h2).trans (hb3.block b (by omega))).trans (hfr2 b hb h1)
 have hZ4:zdL (w3.setCell ⟨gf,k,none⟩ (.slice xa xn xc)) w.heap.size 3 (.slice xa xn xc) (zaL wd cs k):=by
  rcases hZ with q|⟨g,c,q1,q2,q3,q4,q5,q6⟩
  ·exact .inl q
  ·exact .inr ⟨g,c,q1,by omega,q3,q4,q5,(Below.heap_setCell _ _ _ _ (by show g≠gf;omega)).trans q6⟩
 have hrm4:=hrm C hT2 hlen
 have ho4:(w3.setCell ⟨gf,k,none⟩ (.slice xa xn xc)).os=w.os/\(w3.setCell ⟨gf,k,none⟩ (.slice xa xn xc)).tape=w.tape/\(w3.setCell ⟨gf,k,none⟩ (.slice xa xn xc)).output=w.output:=⟨hb3.os.trans ho2.1,hb3.tape.trans ho2.2.1,hb3.output.trans ho2.2.2⟩
 have hsz4:w.heap.size<=(w3.setCell ⟨gf,k,none⟩ (.slice xa xn xc)).heap.size:=by simp;omega
 subst elt
 clear hL3 hF3 hb3 hZ hrm
 go_wp2_with fail
 exact hK _ _ _ _ _ _ _ hZ4 hrm4 hL4 hF4 hfr4 hsz4 ho4
theorem zrN(wd:Int)(a:Option Addr)(cap:Nat)(cs:List (Int × Int))(w:World)(M gc gl gf:Nat)(u1 u2 u3 u4 u5 u11 u12 u13 u14 u15 u16 u17 u18 u19 u20 u21:Value){Q:Exit->Act->World->Prop}(hK:∀ u11,Q (.exit 1) ⟨#[.agg #[.int .i64 wd,.slice a cs.length cap],u1,u2,u3,u4,u5,.agg #[.int .i64 wd,.slice (some ⟨gc,0,none⟩) cs.length cs.length],.int .i64 (M:Int),.slice (some ⟨gl,0,none⟩) M M,.slice (some ⟨gf,0,none⟩) M M,.int .i64 ((M:Int)),u11,u12,u13,u14,u15,u16,u17,u18,u19,u20,u21],[]⟩ w) :
  scL.wp SqP.prog Q ⟨#[.agg #[.int .i64 wd,.slice a cs.length cap],u1,u2,u3,u4,u5,.agg #[.int .i64 wd,.slice (some ⟨gc,0,none⟩) cs.length cs.length],.int .i64 (M:Int),.slice (some ⟨gl,0,none⟩) M M,.slice (some ⟨gf,0,none⟩) M M,.int .i64 ((M:Int)),u11,u12,u13,u14,u15,u16,u17,u18,u19,u20,u21],[]⟩ w:=by
 have bl:decide ((M:Int)<(M:Int))=false:=decide_eq_false (by omega)
 unfold scL
 simp only[opr]
 go_wp2_with fail
 exact hK _
theorem zrb(wd:Int)(a:Option Addr)(cap:Nat)(cs:List (Int × Int))(w:World)(h:zak w a cs)(hm:cs.length<4611686018427387904)(hk:okG wd cs=true)(u1 u2 u3 u4 u5 u6 u7 u8 u9 u10 u11 u12 u13 u14 u15 u16 u17 u18 u19 u20 u21:Value){Q:Exit->Act->World->Prop}(hK:∀ w',Below w.heap.size w w'->Q .normal ⟨#[.agg #[.int .i64 wd,.slice a cs.length cap],u1,u2,.bool true,u4,u5,u6,u7,u8,u9,u10,u11,u12,u13,u14,u15,u16,u17,u18,u19,u20,u21],[]⟩ w') :
  scG.wp SqP.prog Q ⟨#[.agg #[.int .i64 wd,.slice a cs.length cap],u1,u2,u3,u4,u5,u6,u7,u8,u9,u10,u11,u12,u13,u14,u15,u16,u17,u18,u19,u20,u21],[]⟩ w:=by
 have HK:Hid (∀ w',Below w.heap.size w w'->Q .normal ⟨#[.agg #[.int .i64 wd,.slice a cs.length cap],u1,u2,.bool true,u4,u5,u6,u7,u8,u9,u10,u11,u12,u13,u14,u15,u16,u17,u18,u19,u20,u21],[]⟩ w'):=hK
 unfold scG
 simp only[opr]
 go_wp2_with fail
 refine(zbD _ _ _ cs _ h (by omega)).mono ?_
 rintro e w2 ⟨rfl,hb2⟩
 rw[hk]
 go_wp2_with fail
 first|exact hb2|exact HK.out _ hb2
theorem zra(wd:Int)(a:Option Addr)(cap:Nat)(cs:List (Int × Int))(w:World)(h:zak w a cs)(hm:cs.length<=1048576)(hl:0<cs.length)(M:Nat)(hM:zb1 wd cs=(M:Int))(hM20:M<=20)(u1 u2 u3 u4 u5 u6 u7 u8 u9 u10 u11 u12 u13 u14 u15 u16 u17 u18 u19 u20 u21:Value){Q:Exit->Act->World->Prop}(hK:∀(gc gl gf:Nat) (w':World),Own w' w.heap.size (.slice (some ⟨gc,0,none⟩) cs.length cs.length) cs->w'.heap[gl]?=some (.cells (madeCells #[.int .i64 0] M) 3)->w'.heap[gf]?=some (.cells (madeCells #[.slice none 0 0] M) 25)->w.heap.size<=gc->gc<gl->gl<gf->Below w.heap.size w w'->Q .normal ⟨#[.agg #[.int .i64 wd,.slice a cs.length cap],u1,u2,u3,u4,u5,.agg #[.int .i64 wd,.slice (some ⟨gc,0,none⟩) cs.length cs.length],.int .i64 (M:Int),.slice (some ⟨gl,0,none⟩) M M,.slice (some ⟨gf,0,none⟩) M M,.int .i64 (0),u11,u12,u13,u14,u15,u16,u17,u18,u19,u20,u21],[]⟩ w') :
  scA.wp SqP.prog Q ⟨#[.agg #[.int .i64 wd,.slice a cs.length cap],u1,u2,u3,u4,u5,u6,u7,u8,u9,u10,u11,u12,u13,u14,u15,u16,u17,u18,u19,u20,u21],[]⟩ w:=by
 have hmk:=(zkS (aLt:=Sq.altP)) M (by omega)
 have hmk2:=zgS M (by omega)
 have HM:Hid (zb1 wd cs=(M:Int)):=hM
 clear hM
 unfold scA
 simp only[opr]
 go_wp2_with fail
 refine(zeL wd a cap cs w h hm hl).mono ?_
 rintro e w1 ⟨gc,rfl,hO1,hb1⟩
 have hz1:=hb1.size
 have hgc:=hO1.lt
 go_wp2_with fail
 refine(zcY wd a cap cs w1 (h.below hb1) hm).mono ?_
 rintro e w2 ⟨rfl,hb2⟩
 rw[HM.out]
 have hz2:=hb2.size
 have hB2:=zaj hb1 hz1 hb2
 have hO2:=hO1.below hb2
 go_wp2_with fail
 have hbA:Below w2.heap.size w2 ((w2.alloc (.cells (madeCells #[.int .i64 0] M) 3)).alloc (.cells (madeCells #[.slice none 0 0] M) 25)):=bel
 refine hK gc w2.heap.size (w2.heap.size+1) _ (hO2.below hbA) ?_ ?_ hgc.1 (by omega) (by omega) (zaj hB2 hB2.size hbA)
 ·rw[Below.heap_alloc _ _ _ (by simp)]
  exact heap_alloc_new w2 _
 ·have:=heap_alloc_new (w2.alloc (.cells (madeCells #[.int .i64 0] M) 3)) (.cells (madeCells #[.slice none 0 0] M) 25)
  simpa using this
theorem zsy(wd:Int)(a:Option Addr)(cap:Nat)(cs:List (Int × Int))(w:World)(M gc gl gf:Nat)(u1 u2 u3 u4 u5 u11 u12 u13 u14 u15 u16 u17 u18 u19 u20 u21:Value){Q:Exit->Act->World->Prop}(hK:∀(a':Act) (w':World),a'.defers=[]->Below w.heap.size w w'->(results (zmc Tryz.f54) a'.tmps).run SqP.prog w'=.ok (.tuple #[.agg #[.int .i64 wd,.slice (some ⟨gc,0,none⟩) cs.length cs.length,.slice (some ⟨gl,0,none⟩) M M,.slice (some ⟨gf,0,none⟩) M M],.bool true]) w'->Q .ret a' w') :
  (Code.seq scZ .ret).wp SqP.prog Q ⟨#[.agg #[.int .i64 wd,.slice a cs.length cap],u1,u2,u3,u4,u5,.agg #[.int .i64 wd,.slice (some ⟨gc,0,none⟩) cs.length cs.length],.int .i64 (M:Int),.slice (some ⟨gl,0,none⟩) M M,.slice (some ⟨gf,0,none⟩) M M,.int .i64 ((M:Int)),u11,u12,u13,u14,u15,u16,u17,u18,u19,u20,u21],[]⟩ w:=by
 unfold scZ
 simp only[opr]
 go_wp2_with fail
 refine hK _ _ rfl bel ?_
 simp[results,SqP.results54,Tryz.results54,go_sem]
structure ScA(w0 w:World)(wd:Int)(cs:List (Int × Int))(M gc bl bf k:Nat)(arrL arrF:Array Value)(xs:Nat->Value):Prop where
 below:Below w0.heap.size w0 w
 grid:Own w w0.heap.size (.slice (some ⟨gc,0,none⟩) cs.length cs.length) cs
 lights:w.heap[bl]?=some (.cells arrL 3)
 feet:w.heap[bf]?=some (.cells arrF 25)
 sizeL:arrL.size=M
 sizeF:arrF.size=M
 atL:∀ j,j<k->arrL[j]?=some (.int .i64 (za3 wd cs (j:Int)))
 atF:∀ j,j<k->arrF[j]?=some (xs j)
 lt:w0.heap.size<=gc/\gc<bl/\bl<bf
 row:∀ j,j<k->zdL w w0.heap.size 3 (xs j) (zaL wd cs (j:Int))
 apart:∀ j,j<k->∀ b,(xs j).ownBlock=some b->bf<b
 once:∀ j j' b,j<k->j'<k->(xs j).ownBlock=some b->(xs j').ownBlock=some b->j=j'
theorem zoi{B:Nat}{e:TypeId}{x:Value}{xs:List Int}(h:zdL w B e x xs)(hk:∀ b,x.ownBlock=some b->w'.heap[b]?=w.heap[b]?):zdL w' B e x xs:=by
 rcases h with q|⟨g,cap,rfl,q2,q3,q4,q5,q6⟩
 ·exact .inl q
 ·exact .inr ⟨g,cap,rfl,q2,q3,q4,q5,(hk g rfl).trans q6⟩
theorem ScA.next{w0:World}{M gc bl bf k:Nat}(hI:ScA w0 w wd cs M gc bl bf k arrL arrF xs)(hkM:k<M){v:Value}(hZ:zdL w' w.heap.size 3 v (zaL wd cs (k:Int)))(hL:w'.heap[bl]?=some (.cells (arrL.setIfInBounds k (.int .i64 (za3 wd cs (k:Int)))) 3))(hF:w'.heap[bf]?=some (.cells (arrF.setIfInBounds k v) 25))(hfr:∀ b,b<w.heap.size->b≠bl->b≠bf->w'.heap[b]?=w.heap[b]?)(hsz:w.heap.size<=w'.heap.size)(ho:w'.os=w.os/\w'.tape=w.tape/\w'.output=w.output) :
  ScA w0 w' wd cs M gc bl bf (k+1) (arrL.setIfInBounds k (.int .i64 (za3 wd cs (k:Int)))) (arrF.setIfInBounds k v) (fun j=>if j=k then v else xs j):=by
 have hz0':=hI.below.size
 have hlt:=hI.lt
 have hbl:=(gei hI.lights).1
 have hbf:=(gei hI.feet).1
 have hrow:∀ j,j<k->∀ b,(xs j).ownBlock=some b->b<w.heap.size:=fun j hj b hb=>((hI.row j hj).ownBlock b hb).2
 have hnew:∀ b,v.ownBlock=some b->w.heap.size<=b:=fun b hb=>(hZ.ownBlock b hb).1
 have hgc:=hI.grid.lt
 refine⟨⟨ho.1.trans hI.below.os,ho.2.1.trans hI.below.tape,ho.2.2.trans hI.below.output,Nat.le_trans hz0' hsz,fun b hb=>?_⟩,?_,hL,hF,by simpa using hI.sizeL,by simpa using hI.sizeF,fun j hj=>?_,fun j hj=>?_,hlt,fun j hj=>?_,fun j hj b hb=>?_,fun j j' b hj hj' hb hb'=>?_⟩
 ·exact(hfr b (by omega) (by omega) (by omega)).trans (hI.below.block b hb)
 ·obtain⟨g1,g2⟩:=hI.grid
  refine⟨g1,?_⟩
  rcases g2 with g2|⟨g,cp,cur,q1,q2,q3,q4⟩
  ·exact .inl g2
  ·have e:gc=g:=by simp only[Value.slice.injEq,Option.some.injEq,Addr.mk.injEq] at q1;exact q1.1.1
   subst e
   exact .inr ⟨gc,cp,cur,q1,q2,(hfr gc (by omega) (by omega) (by omega)).trans q3,q4⟩
 ·by_cases q:j=k
  ·subst q
   rw[Array.getElem?_setIfInBounds_self_of_lt (by rw[hI.sizeL];exact hkM)]
  ·rw[Array.getElem?_setIfInBounds_ne (Ne.symm q)]
   exact hI.atL j (by omega)
 ·by_cases q:j=k
  ·subst q
   rw[Array.getElem?_setIfInBounds_self_of_lt (by rw[hI.sizeF];exact hkM),if_pos rfl]
  ·rw[Array.getElem?_setIfInBounds_ne (Ne.symm q),if_neg q]
   exact hI.atF j (by omega)
 ·by_cases q:j=k
  ·subst q
   rw[if_pos rfl]
   exact hZ.mono hz0'
  ·rw[if_neg q]
   refine zoi (hI.row j (by omega)) (fun b hb=>hfr b (hrow j (by omega) b hb) ?_ ?_)
   ·have:=hI.apart j (by omega) b hb;omega
   ·have:=hI.apart j (by omega) b hb;omega
 ·by_cases q:j=k
  ·rw[if_pos q] at hb
   have:=hnew b hb
   omega
  ·rw[if_neg q] at hb
   exact hI.apart j (by omega) b hb
 ·by_cases q:j=k
  ·by_cases q':j'=k
   ·omega
   ·rw[if_pos q] at hb
    rw[if_neg q'] at hb'
    have:=hnew b hb
    have:=hrow j' (by omega) b hb'
    omega
  ·by_cases q':j'=k
   ·rw[if_neg q] at hb
    rw[if_pos q'] at hb'
    have:=hnew b hb'
    have:=hrow j (by omega) b hb
    omega
   ·rw[if_neg q] at hb
    rw[if_neg q'] at hb'
    exact hI.once j j' b (by omega) (by omega) hb hb'
theorem ScA.same{w0:World}{M gc bl bf k:Nat}(h:ScA w0 w wd cs M gc bl bf k arrL arrF xs)(hb5:Below w.heap.size w w'):ScA w0 w' wd cs M gc bl bf k arrL arrF xs:=by
 have hkeep:∀ b o,w.heap[b]?=some o->w'.heap[b]?=some o:=fun b o q=>(hb5.block b (gei q).1).trans q
 exact⟨zaj h.below h.below.size hb5,h.grid.below hb5,hkeep _ _ h.lights,hkeep _ _ h.feet,h.sizeL,h.sizeF,h.atL,h.atF,h.lt,fun j hj=>(h.row j hj).below hb5,h.apart,h.once⟩
set_option maxRecDepth 20000 in
theorem zoo(wd:Int)(a:Option Addr)(cap:Nat)(cs:List (Int × Int))(w:World)(h:zak w a cs)(hm:cs.length<=25)(hl:0<cs.length)(hk:okG wd cs=true)(M:Nat)(hM:zb1 wd cs=(M:Int))(hM20:M<=20) :
  Calls SqP.prog 54 #[.agg #[.int .i64 wd,.slice a cs.length cap]] w fun e w'=>∃ gc bl bf arrL arrF xs,e=.returned (.tuple #[.agg #[.int .i64 wd,.slice (some ⟨gc,0,none⟩) cs.length cs.length,.slice (some ⟨bl,0,none⟩) M M,.slice (some ⟨bf,0,none⟩) M M],.bool true])/\ScA w w' wd cs M gc bl bf M arrL arrF xs:=by
 have hca:∀ b off,a=some ⟨b,off,none⟩->b<w.heap.size:=by
  intro b off e
  rcases h with q|⟨b',off',e',hbl',_⟩
  ·rw[q] at hl;simp at hl
  ·rw[e] at e'
   simp only[Option.some.injEq,Addr.mk.injEq] at e'
   omega
 have HCA:Hid (∀ b off,a=some ⟨b,off,none⟩->b<w.heap.size):=hca
 clear hca
 go_enter SqP.func54,SqP.ntmps54
 unfold zrr
 refine wp_seq (zrs wd a cap cs w h (by omega) fun w1 u1 u2 u3 u4 u5 u6 u7 u8 u9 u10 u11 u12 u13 u14 u15 u16 u17 u18 u19 u20 u21 hb1=>wp_skip ?_)
 show Code.wp _ _ _ _ _
 unfold zgW
 refine wp_seq (zrb wd a cap cs w1 (h.below hb1) (by omega) hk _ _ _ _ _ _ _ _ _ _ _ _ _ _ _ _ _ _ _ _ _ fun w2 hb2=>?_)
 have hB2:=zaj hb1 hb1.size hb2
 show Code.wp _ _ _ _ _
 refine wp_seq (wp_cond (t:=true) rfl (wp_skip ?_))
 show Code.wp _ _ _ _ _
 refine wp_seq (zra wd a cap cs w2 (h.below hB2) (by omega) hl M hM hM20 _ _ _ _ _ _ _ _ _ _ _ _ _ _ _ _ _ _ _ _ _ fun gc bl bf w3 hO hL hF q1 q2 q3 hb3=>?_)
 have hB3:=zaj hB2 hB2.size hb3
 have hz2:=hB2.size
 have hI:ScA w w3 wd cs M gc bl bf 0 (madeCells #[.int .i64 0] M) (madeCells #[.slice none 0 0] M) (fun _=>.slice none 0 0):=⟨hB3,hO.mono (by omega),hL,hF,by simp[madeCells],by simp[madeCells],fun j hj=>by omega,fun j hj=>by omega,⟨by omega,q2,q3⟩,fun j hj=>by omega,fun j hj=>by omega,fun j j' b hj=>by omega⟩
 show Code.wp _ _ _ _ _
 unfold scL
 simp only[opr]
 go_wp2_with fail
 go_loopw [10,11,12,13,14,15] (fun kk _ _ _ _ _ wr=>∃ (k:Nat) (arrL arrF:Array Value) (xs:Nat->Value),k<=M/\kk=.int .i64 k/\ScA w wr wd cs M gc bl bf k arrL arrF xs) (fun kk _ _ _ _ _ _=>M - (intOf kk).toNat)
 case atStart=>exact⟨0,_,_,_,Nat.zero_le _,rfl,hI⟩
 case round =>
  rename World=>wo
  obtain⟨k,arrL,arrF,xs,hkM',rfl,hI⟩:=hrel
  by_cases hkM:k<M
  ·have bl1:decide ((k:Int)<(M:Int))=true:=decide_eq_true (by omega)
   have wk:IntKind.i64.wrap ((k:Int)+1)=(k:Int)+1:=IntWalk.i64_in _ (by omega)
   have hlt:=hI.lt
   have hlf:bl≠bf:=by omega
   have hCo:zak wo a cs:=h.below hI.below
   have hcn:∀ b off,a=some ⟨b,off,none⟩->b≠bl/\b≠bf:=fun b off e=>by have:=HCA.out b off e;omega
   have HL:=(show Hid (wo.heap[bl]?=some (.cells arrL 3)) from hI.lights)
   have HF:=(show Hid (wo.heap[bf]?=some (.cells arrF 25)) from hI.feet)
   have hgl:=(gei hI.lights).1
   have hgf:=(gei hI.feet).1
   have hLs:=hI.sizeL
   have hFs:=hI.sizeF
   have HI:Hid (ScA w wo wd cs M gc bl bf k arrL arrF xs):=hI
   clear hI
   go_wp2_with fail
   refine(zcC wd a cap cs wo hCo (by omega) k).mono ?_
   rintro e w1 ⟨rfl,hb1⟩
   obtain⟨lt,elt⟩:∃ lt,za3 wd cs (k:Int)=lt:=⟨_,rfl⟩
   rw[elt]
   have hL1:w1.heap[bl]?=some (.cells arrL 3):=(hb1.block bl hgl).trans HL.out
   have hF1:w1.heap[bf]?=some (.cells arrF 25):=(hb1.block bf hgf).trans HF.out
   have cl:w1.cell? ⟨bl,k,none⟩=some arrL[k]:=by rw[cell_of_row _ _ _ _ _ _ hL1];exact Array.getElem?_eq_getElem (by omega)
   have fl:w1.frozen? ⟨bl,k,none⟩=false:=frozen_of_row _ _ _ _ _ hL1
   have hL2:(w1.setCell ⟨bl,k,none⟩ (.int .i64 lt)).heap[bl]?=some (.cells (arrL.setIfInBounds k (.int .i64 lt)) 3):=heap_setCell_same w1 bl k _ _ _ hL1
   have hF2:(w1.setCell ⟨bl,k,none⟩ (.int .i64 lt)).heap[bf]?=some (.cells arrF 25):=(Below.heap_setCell _ _ _ _ (fun e=>hlf e.symm)).trans hF1
   have hC2:zak (w1.setCell ⟨bl,k,none⟩ (.int .i64 lt)) a cs:=by
    rcases hCo.below hb1 with q|⟨b,off,rfl,hbl,hc⟩
    ·exact .inl q
    ·refine .inr ⟨b,off,rfl,by simpa using hbl,fun i hi=>?_⟩
     have hne:=(hcn b off rfl).1
     rw[World.cell?_of_block (w:=w1) (a:=⟨b,_,none⟩) (Below.heap_setCell _ _ _ _ hne),World.cell?_of_block (w:=w1) (a:=⟨b,_,none⟩) (Below.heap_setCell _ _ _ _ hne)]
     exact hc i hi
   have hz1:=hb1.size
   have hfr2:∀ b,b<wo.heap.size->b≠bl->(w1.setCell ⟨bl,k,none⟩ (.int .i64 lt)).heap[b]?=wo.heap[b]?:=fun b hb hne=>(Below.heap_setCell _ _ _ _ hne).trans (hb1.block b hb)
   have hsz2:w1.heap.size<=(w1.setCell ⟨bl,k,none⟩ (.int .i64 lt)).heap.size:=by simp
   go_wp2_with fail
   obtain⟨w2,hw2⟩:∃ w2,w2=w1.setCell ⟨bl,k,none⟩ (.int .i64 lt):=⟨_,rfl⟩
   have ho2:w2.os=wo.os/\w2.tape=wo.tape/\w2.output=wo.output:=by rw[hw2];exact⟨hb1.os,hb1.tape,hb1.output⟩
   rw[<- hw2] at hL2 hF2 hC2 hfr2 hsz2 ⊢
   clear hw2 cl fl hL1 hF1 hb1 HL HF
   refine(zeA wd a cap cs w2 hC2 (by omega) k).mono ?_
   rintro e w3 ⟨v,rfl,hZ,hrm,hb3⟩
   have hvs:∃ xa xn xc,v=.slice xa xn xc:=by
    rcases hZ with ⟨q,_⟩|⟨g,c,q,_⟩
    ·exact⟨_,_,_,q⟩
    ·exact⟨_,_,_,q⟩
   obtain⟨xa,xn,xc,rfl⟩:=hvs
   have hz3:=hb3.size
   have hL3:w3.heap[bl]?=some (.cells (arrL.setIfInBounds k (.int .i64 lt)) 3):=(hb3.block bl (by omega)).trans hL2
   have hF3:w3.heap[bf]?=some (.cells arrF 25):=(hb3.block bf (by omega)).trans hF2
   have cf:w3.cell? ⟨bf,k,none⟩=some arrF[k]:=by rw[cell_of_row _ _ _ _ _ _ hF3];exact Array.getElem?_eq_getElem (by omega)
   have ff:w3.frozen? ⟨bf,k,none⟩=false:=frozen_of_row _ _ _ _ _ hF3
   have hL4:(w3.setCell ⟨bf,k,none⟩ (.slice xa xn xc)).heap[bl]?=some (.cells (arrL.setIfInBounds k (.int .i64 lt)) 3):=(Below.heap_setCell _ _ _ _ hlf).trans hL3
   have hF4:(w3.setCell ⟨bf,k,none⟩ (.slice xa xn xc)).heap[bf]?=some (.cells (arrF.setIfInBounds k (.slice xa xn xc)) 25):=heap_setCell_same w3 bf k _ _ _ hF3
   have hfr4:∀ b,b<wo.heap.size->b≠bl->b≠bf->(w3.setCell ⟨bf,k,none⟩ (.slice xa xn xc)).heap[b]?=wo.heap[b]?:=fun b hb h1 h2=>((Below.heap_setCell _ _ _ _ h2).trans (hb3.block b (by omega))).trans (hfr2 b hb h1)
   have hZ4:zdL (w3.setCell ⟨bf,k,none⟩ (.slice xa xn xc)) wo.heap.size 3 (.slice xa xn xc) (zaL wd cs k):=by
    rcases hZ with q|⟨g,c,q1,q2,q3,q4,q5,q6⟩
    ·exact .inl q
    ·exact .inr ⟨g,c,q1,by omega,q3,q4,q5,(Below.heap_setCell _ _ _ _ (by show g≠bf;omega)).trans q6⟩
   have ho4:(w3.setCell ⟨bf,k,none⟩ (.slice xa xn xc)).os=wo.os/\(w3.setCell ⟨bf,k,none⟩ (.slice xa xn xc)).tape=wo.tape/\(w3.setCell ⟨bf,k,none⟩ (.slice xa xn xc)).output=wo.output:=⟨hb3.os.trans ho2.1,hb3.tape.trans ho2.2.1,hb3.output.trans ho2.2.2⟩
   have hsz4:wo.heap.size<=(w3.setCell ⟨bf,k,none⟩ (.slice xa xn xc)).heap.size:=by simp;omega
   subst elt
   clear hL3 hF3 hb3 hZ hrm
   go_wp2_with fail
   have hnx:=HI.out.next hkM hZ4 hL4 hF4 hfr4 hsz4 ho4
   clear hL4 hF4 hfr4 hsz4 ho4 hZ4 HI
   go_roundw
   case rel=>exact⟨k+1,_,_,_,by omega,by go_num,hnx⟩
   case measure=>simp[intOf];omega
  ·have hkM2:k=M:=by omega
   subst hkM2
   have bl1:decide ((k:Int)<(k:Int))=false:=decide_eq_false (by omega)
   go_wp2_with fail
   unfold scZ
   simp only[opr]
   go_wp2_with fail
   refine bodyPost_ret (v:=.tuple #[.agg #[.int .i64 wd,.slice (some ⟨gc,0,none⟩) cs.length cs.length,.slice (some ⟨bl,0,none⟩) k k,.slice (some ⟨bf,0,none⟩) k k],.bool true]) (by simp[results,SqP.results54,Tryz.results54,go_sem]) rfl ⟨gc,bl,bf,arrL,arrF,xs,rfl,hI.same bel⟩
