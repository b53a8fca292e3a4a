/- Part. -/
import Derived.Test.YtnlhffcgaeooiaaGreatMBk
set_option maxHeartbeats 4000000
set_option linter.unusedVariables false
namespace Go.Proofs.YtnlhffcgaeooiaaGreat
variable{arr va vo vr:Array Value}{es:List (Int × Int × Int)}{B b g i n:Nat}{ta tr:TypeId}{w w' w0:World}
namespace Sp
open Go.RowKit
attribute [local go_sem ↓] Go.wp_at_zero Go.wp_at_succ
def zff(w:World)(a:Option Addr)(es:List (Int × Int × Int)):Prop:=es=[]\/∃ b off,a=some ⟨b,off,none⟩/\b<w.heap.size/\∀ i,i<es.length->w.cell? ⟨b,off+i * 3,none⟩=some (.int .i64 (es.getD i (0,0,0)).1)/\w.cell? ⟨b,off+i * 3+1,none⟩=some (.int .i64 (es.getD i (0,0,0)).2.1)/\w.cell? ⟨b,off+i * 3+2,none⟩=some (.int .i64 (es.getD i (0,0,0)).2.2)
theorem zff.below{a:Option Addr}(h:zff w a es)(hb:Below w.heap.size w w'):zff w' a es:=by
 rcases h with h|⟨b,off,rfl,hl,hc⟩
 ·exact .inl h
 ·exact .inr ⟨b,off,rfl,nll hl hb.size,fun i hi=>⟨zab hb (hc i hi).1,zab hb (hc i hi).2.1,zab hb (hc i hi).2.2⟩⟩
theorem zff.at{w:World}{a:Option Addr}{es:List (Int × Int × Int)}(h:zff w a es){i:Nat}(hi:i<es.length):∃ b off x k l,a=some ⟨b,off,none⟩/\es.getD i (0,0,0)=(x,k,l)/\w.cell? ⟨b,off+i * 3,none⟩=some (.int .i64 x)/\w.cell? ⟨b,off+i * 3+1,none⟩=some (.int .i64 k)/\w.cell? ⟨b,off+i * 3+2,none⟩=some (.int .i64 l):=by
 rcases h with rfl|⟨b,off,rfl,_,hc⟩
 ·simp at hi
 ·obtain⟨h1,h2,h3⟩:=hc i hi
  exact⟨b,off,_,_,_,rfl,rfl,h1,h2,h3⟩
theorem zht{v0 v1 v2:Value}{t:TypeId}(h:w.heap[b]?=some (.cells #[v0,v1,v2] t)):w.cell? ⟨b,0,none⟩=some v0/\w.cell? ⟨b,1,none⟩=some v1/\w.cell? ⟨b,2,none⟩=some v2 :=
 ⟨(cell_of_row _ _ 0 _ _ _ h).trans rfl,(cell_of_row _ _ 1 _ _ _ h).trans rfl,(cell_of_row _ _ 2 _ _ _ h).trans rfl⟩
structure CpT(w:World)(B:Nat)(ta tr:TypeId)(va vr vo:Array Value):Prop where
 a:w.heap[B]?=some (.cells va ta)
 r:w.heap[B+1]?=some (.cells vr tr)
 o:w.heap[B+2]?=some (.cells vo tr)
theorem CpT.on(h:CpT w B ta tr va vr vo)(hb:Below w.heap.size w w'):CpT w' B ta tr va vr vo :=
 ⟨(hb.block _ (gei h.a).1).trans h.a,(hb.block _ (gei h.r).1).trans h.r,(hb.block _ (gei h.o).1).trans h.o⟩
theorem CpT.put(h:CpT w B ta tr va vr vo)(i:Nat)(v:Value):CpT (w.setCell ⟨B+2,i,none⟩ v) B ta tr va vr (vo.setIfInBounds i v) :=
 ⟨(Below.heap_setCell _ _ _ _ (by show B≠B+2;omega)).trans h.a,(Below.heap_setCell _ _ _ _ (by show B+1≠B+2;omega)).trans h.r,heap_setCell_same _ _ _ _ _ _ h.o⟩
theorem zf4(a:Option Addr)(n cap:Nat)(left:Int)(w:World)(hm:n<=9223372036854775807)(hl:0<=left/\left<=1048576)(h:left - n<0) :
  Calls SqP.prog 39 #[.slice a n cap,.int .i64 left] w fun e w'=>e=.returned (.int .i64 (-1))/\w'=w:=by
 go_enter SqP.func39,Tryz.ntmps39
 go_wp2
 go_ret
 exact⟨rfl,rfl⟩
theorem zf5(a:Option Addr)(n cap:Nat)(left:Int)(w:World)(hm:n<=9223372036854775807)(hl:0<=left/\left<=1048576)(h:¬ left - n<0) :
  Calls SqP.prog 39 #[.slice a n cap,.int .i64 left] w fun e w'=>e=.returned (.int .i64 (left - n))/\w'=w:=by
 go_enter SqP.func39,Tryz.ntmps39
 go_wp2
 go_ret
 exact⟨rfl,rfl⟩
set_option maxRecDepth 100000 in
theorem zl8(x k l:Int)(w:World) :
  Calls SqP.prog 57 #[.agg #[.int .i64 x,.int .i64 k,.int .i64 l]] w fun e w'=>e=.returned (.agg #[.int .i64 x,.int .i64 k,.int .i64 l])/\Below w.heap.size w w':=by
 obtain⟨w2,hw2⟩:∃ w2,w2=((w.alloc (.cells #[.int .i64 x,.int .i64 k,.int .i64 l] 95)).alloc (.cells #[.int .i64 0,.int .i64 0,.int .i64 0] 91)).alloc (.cells #[.int .i64 0,.int .i64 0,.int .i64 0] 91):=⟨_,rfl⟩
 obtain⟨x1,x2,x3,hz2,hb2⟩:=zc3 (.cells #[.int .i64 x,.int .i64 k,.int .i64 l] 95) (.cells #[.int .i64 0,.int .i64 0,.int .i64 0] 91) (.cells #[.int .i64 0,.int .i64 0,.int .i64 0] 91) w
 rw[<- hw2] at x1 x2 x3 hz2 hb2
 have K2:CpT w2 w.heap.size 95 91 #[.int .i64 x,.int .i64 k,.int .i64 l] #[.int .i64 0,.int .i64 0,.int .i64 0] #[.int .i64 0,.int .i64 0,.int .i64 0]:=⟨x1,x2,x3⟩
 have B2:Hid (Below w.heap.size w w2):=hb2
 clear x1 x2 x3 hb2
 obtain⟨c0,c1,c2⟩:=zht K2.a
 obtain⟨o0,o1,o2⟩:=zht K2.o
 have t0:=thaw K2.o 0
 have K3:Hid (CpT (w2.setCell ⟨w.heap.size+2,0,none⟩ (.int .i64 x)) w.heap.size 95 91 #[.int .i64 x,.int .i64 k,.int .i64 l] #[.int .i64 0,.int .i64 0,.int .i64 0] #[.int .i64 x,.int .i64 0,.int .i64 0]):=K2.put 0 _
 have B3:Hid (Below w.heap.size w (w2.setCell ⟨w.heap.size+2,0,none⟩ (.int .i64 x))):=B2.out.setCell (p:=⟨w.heap.size+2,0,none⟩) (by show w.heap.size<=w.heap.size+2;omega) _
 go_enter SqP.func57,Tryz.ntmps57
 go_upto_region 2 with fail
 rw[<- hw2]
 clear hw2 K2
 go_upto_region 3 with fail
 obtain⟨w3,hw3⟩:∃ w3,w3=(w2.setCell ⟨w.heap.size+2,0,none⟩ (.int .i64 x)):=⟨_,rfl⟩
 rw[<- hw3] at K3 B3 ⊢
 clear hw3 c0 c1 c2 o0 o1 o2 t0 B2
 obtain⟨c0,c1,c2⟩:=zht K3.out.a
 go_wp2_with fail
 refine(zgY k l w3).mono ?_
 rintro e w4 ⟨rfl,hb⟩
 have K4:=K3.out.on hb
 have B4:Hid (Below w.heap.size w w4):=zai B3.out B3.out.size hb
 obtain⟨o0,o1,o2⟩:=zht K4.o
 have t1:=thaw K4.o 1
 have t2:=thaw K4.o 2
 clear c0 c1 c2 hb K3 B3
 have K5:Hid (CpT ((w4.setCell ⟨w.heap.size+2,1,none⟩ (.int .i64 k)).setCell ⟨w.heap.size+2,2,none⟩ (.int .i64 l)) w.heap.size 95 91 #[.int .i64 x,.int .i64 k,.int .i64 l] #[.int .i64 0,.int .i64 0,.int .i64 0] #[.int .i64 x,.int .i64 k,.int .i64 l]):=(K4.put 1 _).put 2 _
 have B5:Hid (Below w.heap.size w ((w4.setCell ⟨w.heap.size+2,1,none⟩ (.int .i64 k)).setCell ⟨w.heap.size+2,2,none⟩ (.int .i64 l))):=(B4.out.setCell (p:=⟨w.heap.size+2,1,none⟩) (by show w.heap.size<=w.heap.size+2;omega) _).setCell (p:=⟨w.heap.size+2,2,none⟩) (by show w.heap.size<=w.heap.size+2;omega) _
 clear K4
 go_upto_region 4 with fail
 obtain⟨w5,hw5⟩:∃ w5,w5=((w4.setCell ⟨w.heap.size+2,1,none⟩ (.int .i64 k)).setCell ⟨w.heap.size+2,2,none⟩ (.int .i64 l)):=⟨_,rfl⟩
 rw[<- hw5] at K5 B5 ⊢
 clear hw5 o0 o1 o2 t1 t2 B4
 obtain⟨c0,c1,c2⟩:=zht K5.out.o
 obtain⟨q0,q1,q2⟩:=zht K5.out.r
 have t0:=thaw K5.out.r 0
 have t1:=thaw K5.out.r 1
 have t2:=thaw K5.out.r 2
 go_wp2_with fail
 refine bodyPost_ret (v:=.agg #[.int .i64 x,.int .i64 k,.int .i64 l]) (by simp[results,Tryz.results57,go_sem,q0,q1,q2]) rfl ⟨rfl,?_⟩
 exact((B5.out.setCell (p:=⟨w.heap.size+1,0,none⟩) (by show w.heap.size<=w.heap.size+1;omega) _).setCell (p:=⟨w.heap.size+1,1,none⟩) (by show w.heap.size<=w.heap.size+1;omega) _).setCell (p:=⟨w.heap.size+1,2,none⟩) (by show w.heap.size<=w.heap.size+1;omega) _
theorem zqd:SqP.prog.underlying 53=some (.slice 91):=by kernel_rfl
theorem zpd:(SqP.prog.info? 91).map (fun i=>(i.zero,i.size,i.bytes))=some (some (.agg #[.int .i64 0,.int .i64 0,.int .i64 0]),3,24):=by kernel_rfl
theorem zln(n:Nat)(hn:n<=1048576)(w:World):(Instr.makeSlice 53 (.int .i64 (n:Int)) (.int .i64 (n:Int))).run SqP.prog w=.ok (.slice (some ⟨w.heap.size,0,none⟩) n n) (w.alloc (.cells (madeCells #[.int .i64 0,.int .i64 0,.int .i64 0] (n * 3)) 91)):=by
 obtain⟨i0,hi,iz0,iz1,iz2⟩:=info_parts zpd
 have:=run_make (P:=SqP.prog) w 53 91 i0 (.agg #[.int .i64 0,.int .i64 0,.int .i64 0]) zqd hi iz0 .i64 .i64 (n:Int) (n:Int) (by omega) (by omega) (by rw[iz2];omega) (by omega)
 rw[iz1] at this
 simpa [Value.cells] using this
structure CpE(w0 w:World)(B N k:Nat)(es:List (Int × Int × Int))(arr:Array Value):Prop where
 below:Below w0.heap.size w0 w
 top:w.heap[B]?=some (.cells arr 91)
 size:arr.size=N * 3
 at':∀ j,j<k->arr[j * 3]?=some (.int .i64 (es.getD j (0,0,0)).1)/\arr[j * 3+1]?=some (.int .i64 (es.getD j (0,0,0)).2.1)/\arr[j * 3+2]?=some (.int .i64 (es.getD j (0,0,0)).2.2)
theorem CpE.next{N:Nat}(h:CpE w0 w B N i es arr)(hB:w0.heap.size<=B)(hiN:i<N){x k l:Int}(he:es.getD i (0,0,0)=(x,k,l))(hb:Below w.heap.size w w') :
  CpE w0 (((w'.setCell ⟨B,i * 3,none⟩ (.int .i64 x)).setCell ⟨B,i * 3+1,none⟩ (.int .i64 k)).setCell ⟨B,i * 3+2,none⟩ (.int .i64 l)) B N (i+1) es (((arr.setIfInBounds (i * 3) (.int .i64 x)).setIfInBounds (i * 3+1) (.int .i64 k)).setIfInBounds (i * 3+2) (.int .i64 l)):=by
 have hBl:=(gei h.top).1
 have ht:w'.heap[B]?=some (.cells arr 91):=(hb.block B hBl).trans h.top
 have hs:=h.size
 refine⟨(((zai h.below h.below.size hb).setCell (p:=⟨B,i * 3,none⟩) hB _).setCell (p:=⟨B,i * 3+1,none⟩) hB _).setCell (p:=⟨B,i * 3+2,none⟩) hB _,heap_setCell_same _ B _ _ _ _ (heap_setCell_same _ B _ _ _ _ (heap_setCell_same w' B _ _ _ _ ht)),by simpa using hs,fun j hj=>?_⟩
 rcases Nat.lt_succ_iff_lt_or_eq.1 hj with q|rfl
 ·obtain⟨h1,h2,h3⟩:=h.at' j q
  refine⟨?_,?_,?_⟩
  ·rw[Array.getElem?_setIfInBounds_ne (by omega),Array.getElem?_setIfInBounds_ne (by omega),Array.getElem?_setIfInBounds_ne (by omega)];exact h1
  ·rw[Array.getElem?_setIfInBounds_ne (by omega),Array.getElem?_setIfInBounds_ne (by omega),Array.getElem?_setIfInBounds_ne (by omega)];exact h2
  ·rw[Array.getElem?_setIfInBounds_ne (by omega),Array.getElem?_setIfInBounds_ne (by omega),Array.getElem?_setIfInBounds_ne (by omega)];exact h3
 ·rw[he]
  refine⟨?_,?_,?_⟩
  ·rw[Array.getElem?_setIfInBounds_ne (by omega),Array.getElem?_setIfInBounds_ne (by omega),Array.getElem?_setIfInBounds_self_of_lt (by omega)]
  ·rw[Array.getElem?_setIfInBounds_ne (by omega),Array.getElem?_setIfInBounds_self_of_lt (by simp;omega)]
  ·rw[Array.getElem?_setIfInBounds_self_of_lt (by simp;omega)]
def EdN(w:World)(g:Nat)(es:List (Int × Int × Int)):Prop:=g<w.heap.size/\∀ w':World,w'.heap[g]?=w.heap[g]?->zff w' (some ⟨g,0,none⟩) es
theorem CpE.done{N:Nat}(h:CpE w0 w B N N es arr)(hN:es.length=N):EdN w B es:=by
 have hBl:=(gei h.top).1
 refine⟨hBl,fun w' hk=>.inr ⟨B,0,rfl,(gei (hk.trans h.top)).1,fun i hi=>?_⟩⟩
 obtain⟨h1,h2,h3⟩:=h.at' i (by omega)
 have e:=hk.trans h.top
 refine⟨?_,?_,?_⟩
 ·rw[Nat.zero_add,cell_of_row _ _ _ _ _ _ e,h1]
 ·rw[Nat.zero_add,cell_of_row _ _ _ _ _ _ e,h2]
 ·rw[Nat.zero_add,cell_of_row _ _ _ _ _ _ e,h3]
theorem EdN.m(h:EdN w g es):zff w (some ⟨g,0,none⟩) es:=h.2 w rfl
theorem EdN.on(h:EdN w g es)(hb:Below w.heap.size w w'):EdN w' g es:=⟨nll h.1 hb.size,fun w2 h2=>h.2 w2 (h2.trans (hb.block g h.1))⟩
theorem EdN.put(h:EdN w g es)(hb:b<g)(v:Value):EdN (w.setCell ⟨b,i,none⟩ v) g es:=⟨by simpa using h.1,fun w2 h2=>h.2 w2 (h2.trans (Below.heap_setCell _ _ _ _ (by show g≠b;omega)))⟩
theorem zf9(a:Option Addr)(cap:Nat)(es:List (Int × Int × Int))(w:World)(h:zff w a es)(hm:es.length<=1048576) :
  Calls SqP.prog 41 #[.slice a es.length cap] w fun e w'=>e=.returned (.slice (some ⟨w.heap.size,0,none⟩) es.length es.length)/\EdN w' w.heap.size es/\Below w.heap.size w w':=by
 obtain⟨N,hN⟩:∃ N,es.length=N:=⟨_,rfl⟩
 have HN:Hid (es.length=N):=hN
 rw[hN] at hm ⊢
 clear hN
 have hmk:=zln N hm w
 have H0:CpE w (w.alloc (.cells (madeCells #[.int .i64 0,.int .i64 0,.int .i64 0] (N * 3)) 91)) w.heap.size N 0 es (madeCells #[.int .i64 0,.int .i64 0,.int .i64 0] (N * 3)):=⟨bel,(zaU _ w).1,by simp[madeCells],fun j hj=>by omega⟩
 go_enter SqP.func41,Tryz.ntmps41
 go_wp2_with fail
 obtain⟨wz,hwz⟩:∃ wz,wz=w.alloc (.cells (madeCells #[.int .i64 0,.int .i64 0,.int .i64 0] (N * 3)) 91):=⟨_,rfl⟩
 rw[<- hwz] at H0 ⊢
 clear hmk hwz
 go_loopw [4] (fun i wr=>∃ (k:Nat) (arr:Array Value),k<=N/\i=.int .i64 k/\CpE w wr w.heap.size N k es arr) (fun i _=>N - (intOf i).toNat)
 case atStart=>exact⟨0,_,Nat.zero_le _,rfl,H0⟩
 case round =>
  rename World=>wo
  obtain⟨i,arr,hi,rfl,hI⟩:=hrel
  have hb:=hI.below
  have hzo:=hb.size
  by_cases hlt:i<N
  ·obtain⟨b,off,x,k,l,rfl,he,x0,x1,x2⟩:=(h.below hb).at (i:=i) (by have:=HN.out;omega)
   have hltI:(i:Int)<(N:Int):=by omega
   have HI:Hid (CpE w wo w.heap.size N i es arr):=hI
   have HE:Hid (es.getD i (0,0,0)=(x,k,l)):=he
   clear h he hI
   go_wp2_with fail
   refine(zl8 x k l wo).mono ?_
   rintro e w1 ⟨rfl,hb1⟩
   have hnx:=HI.out.next (Nat.le_refl _) hlt HE.out hb1
   have htop:w1.heap[w.heap.size]?=some (.cells arr 91):=(hb1.block _ (gei HI.out.top).1).trans HI.out.top
   have hsz:=HI.out.size
   have l0:w1.cell? ⟨w.heap.size,i * 3,none⟩=some (arr.getD (i * 3) .nilFunc):=by rw[cell_of_row _ _ _ _ _ _ htop];simp[show i * 3<arr.size by omega]
   have l1:w1.cell? ⟨w.heap.size,i * 3+1,none⟩=some (arr.getD (i * 3+1) .nilFunc):=by rw[cell_of_row _ _ _ _ _ _ htop];simp[show i * 3+1<arr.size by omega]
   have l2:w1.cell? ⟨w.heap.size,i * 3+2,none⟩=some (arr.getD (i * 3+2) .nilFunc):=by rw[cell_of_row _ _ _ _ _ _ htop];simp[show i * 3+2<arr.size by omega]
   have f0:=thaw htop (i * 3)
   have f1:=thaw htop (i * 3+1)
   have f2:=thaw htop (i * 3+2)
   clear htop hb1 hsz
   go_wp2_with fail
   go_roundw
   case rel=>exact⟨i+1,_,by omega,by go_num,hnx⟩
   case measure=>simp[intOf];omega
  ·have hnl:¬ (i:Int)<(N:Int):=by omega
   have HI:Hid (CpE w wo w.heap.size N i es arr):=hI
   clear hI h
   go_wp2_with fail
   go_ret
   obtain rfl:i=N:=by omega
   exact⟨rfl,HI.out.done HN.out,hb⟩
theorem zji(x k l:Int)(w:World) :
  Calls SqP.prog 60 #[.agg #[.int .i64 x,.int .i64 k,.int .i64 l],.agg #[.int .i64 x,.int .i64 k,.int .i64 l]] w fun e w'=>e=.returned (.bool true)/\Below w.heap.size w w':=by
 obtain⟨w2,hw2⟩:∃ w2,w2=(w.alloc (.cells #[.int .i64 x,.int .i64 k,.int .i64 l] 91)).alloc (.cells #[.int .i64 x,.int .i64 k,.int .i64 l] 91):=⟨_,rfl⟩
 obtain⟨x1,x2,hb2⟩:=zew (.cells #[.int .i64 x,.int .i64 k,.int .i64 l] 91) (.cells #[.int .i64 x,.int .i64 k,.int .i64 l] 91) w
 rw[<- hw2] at x1 x2 hb2
 have H2:Hid (Below w.heap.size w w2):=hb2
 have hne:(x != x)=false:=by simp
 obtain⟨c0,c1,c2⟩:=zht x1
 obtain⟨d0,d1,d2⟩:=zht x2
 have hC:=(zek (aLt:=Sq.altP)) k l k l w2
 have eC:eqC k l k l=true:=by simp[eqC]
 rw[eC] at hC
 clear x1 x2 hb2 eC
 go_enter SqP.func60,Tryz.ntmps60
 go_upto_region 1 with fail
 rw[<- hw2]
 clear hw2
 go_wp2_with fail
 refine hC.mono ?_
 rintro e w3 ⟨rfl,hb⟩
 have H3:Hid (Below w.heap.size w w3):=zai H2.out H2.out.size hb
 clear hC hb c0 c1 c2 d0 d1 d2
 go_wp2_with fail
 go_ret
 exact⟨rfl,H3.out⟩
theorem zh4(a a2:Option Addr)(c c2:Nat)(es:List (Int × Int × Int))(w:World)(h:zff w a es)(h2:zff w a2 es)(hm:es.length<=1048576) :
  Calls SqP.prog 43 #[.slice a es.length c,.slice a2 es.length c2] w fun e w'=>e=.returned (.bool true)/\Below w.heap.size w w':=by
 have bl:((es.length:Int) != (es.length:Int))=false:=by simp
 obtain⟨N,hN⟩:∃ N,es.length=N:=⟨_,rfl⟩
 have HN:Hid (es.length=N):=hN
 rw[hN] at bl hm ⊢
 clear hN
 go_enter SqP.func43,Tryz.ntmps43
 go_wp2_with fail
 go_loopw [5] (fun ii wr=>∃ i:Nat,i<=N/\ii=.int .i64 i/\Below w.heap.size w wr) (fun ii _=>N - (intOf ii).toNat)
 case atStart=>exact⟨0,Nat.zero_le _,rfl,Below.refl _ _⟩
 case round =>
  rename World=>wo
  obtain⟨i,hi,rfl,hb⟩:=hrel
  have hzo:=hb.size
  by_cases hlt:i<N
  ·obtain⟨b,off,x,k,l,rfl,he,x0,x1,x2⟩:=(h.below hb).at (i:=i) (by have:=HN.out;omega)
   obtain⟨b2,off2,x',k',l',rfl,he',y0,y1,y2⟩:=(h2.below hb).at (i:=i) (by have:=HN.out;omega)
   rw[he] at he'
   obtain⟨rfl,rfl,rfl⟩:x=x'/\k=k'/\l=l':=by simpa using he'
   have hltI:(i:Int)<(N:Int):=by omega
   have wk:IntKind.i64.wrap ((i:Int)+1)=(i:Int)+1:=IntWalk.i64_in _ (by omega)
   clear h h2 he he'
   go_wp2
   go_region_held3 (fun w'=>(w'.cell? ⟨b,off+i * 3,none⟩=some (.int .i64 x)/\w'.cell? ⟨b,off+i * 3+1,none⟩=some (.int .i64 k)/\w'.cell? ⟨b,off+i * 3+2,none⟩=some (.int .i64 l))/\w'.cell? ⟨b2,off2+i * 3,none⟩=some (.int .i64 x)/\w'.cell? ⟨b2,off2+i * 3+1,none⟩=some (.int .i64 k)/\w'.cell? ⟨b2,off2+i * 3+2,none⟩=some (.int .i64 l))
    (first
     | exact⟨⟨zab hb7 x0,zab hb7 x1,zab hb7 x2⟩,zab hb7 y0,zab hb7 y1,zab hb7 y2⟩
     | exact⟨⟨x0,x1,x2⟩,y0,y1,y2⟩
     | go_keep)
    (first
     | (go_at_call 60;refine(zji x k l _).mono ?_;rintro e w7 ⟨rfl,hb7'⟩;have hb7:Below wo.heap.size wo w7:=(by first|exact hb7'|exact zbH hb7'))
     | fail)
   all_goals
    have hb8:=zai hb hzo hb7
    go_wp2_with fail
    go_roundw
    case rel=>exact⟨i+1,by omega,by go_num,by first|exact hb8|exact hb8.drew⟩
    case measure=>simp[intOf];omega
  ·have hnl:¬ (i:Int)<(N:Int):=by omega
   go_wp2_with fail
   go_ret
   exact⟨rfl,hb⟩
def zki(n:Nat)(es:List (Int × Int × Int)):Bool:=es.all fun e=>inP e.1 n && okC e.2.1 e.2.2
theorem zhb(hi:i<es.length)(h:(inP (es.getD i (0,0,0)).1 n && okC (es.getD i (0,0,0)).2.1 (es.getD i (0,0,0)).2.2)=false):zki n es=false:=by
 unfold zki
 rw[List.all_eq_false]
 refine⟨es.getD i (0,0,0),?_,by simpa using h⟩
 simp[List.getD,List.getElem?_eq_getElem hi]
theorem zkj(h:∀ i,i<es.length->(inP (es.getD i (0,0,0)).1 n && okC (es.getD i (0,0,0)).2.1 (es.getD i (0,0,0)).2.2)=true):zki n es=true:=by
 unfold zki
 rw[List.all_eq_true]
 intro e he
 obtain⟨i,hi,rfl⟩:=List.getElem_of_mem he
 have:=h i hi
 simpa [List.getD,List.getElem?_eq_getElem hi] using this
set_option maxRecDepth 100000 in
theorem zfo(wd:Int)(g a:Option Addr)(gc ac n:Nat)(es:List (Int × Int × Int))(w:World)(h:zff w a es)(hn:n<=1048576)(hm:es.length<=1048576) :
  Calls SqP.prog 42 #[.agg #[.int .i64 wd,.slice g n gc],.slice a es.length ac] w fun e w'=>e=.returned (.bool (decide (es.length<=12) && zki n es))/\Below w.heap.size w w':=by
 obtain⟨N,hN⟩:∃ N,es.length=N:=⟨_,rfl⟩
 by_cases hbig:12<N
 ·have HQ:Hid (12<N):=hbig
  have hb:(12:Int)<(N:Int):=by omega
  rw[hN]
  clear h hbig hN
  go_enter SqP.func42,Tryz.ntmps42
  go_wp2_with fail
  go_ret
  exact⟨by have h:=HQ.out;have h2:¬ N<=12:=by omega
           simp[h2],bel⟩
 have hs:¬ (12:Int)<(N:Int):=by omega
 have HN:Hid (es.length=N):=hN
 have HS:Hid (N<=12):=by show _<=_;omega
 obtain⟨w2,hw2⟩:∃ w2,w2=w.alloc (.cells #[.int .i64 wd,.slice g n gc] 33):=⟨_,rfl⟩
 obtain⟨x1,hb2⟩:=zaU (.cells #[.int .i64 wd,.slice g n gc] 33) w
 rw[<- hw2] at x1 hb2
 have H2:Hid (Below w.heap.size w w2):=hb2
 have hE:=h.below hb2
 rw[hN]
 clear h hbig hN hb2 hm
 have c0:w2.cell? ⟨w.heap.size,0,none⟩=some (.int .i64 wd):=(cell_of_row _ _ 0 _ _ _ x1).trans rfl
 have c1:w2.cell? ⟨w.heap.size,1,none⟩=some (.slice g n gc):=(cell_of_row _ _ 1 _ _ _ x1).trans rfl
 clear x1
 go_enter SqP.func42,Tryz.ntmps42
 go_upto_region 1 with fail
 rw[<- hw2]
 clear hw2
 go_wp2_with fail
 go_loopw [12,6] (fun ii _ wr=>∃ i:Nat,i<=N/\ii=.int .i64 i/\(∀ j,j<i->(inP (es.getD j (0,0,0)).1 n && okC (es.getD j (0,0,0)).2.1 (es.getD j (0,0,0)).2.2)=true)/\Below w2.heap.size w2 wr) (fun ii _ _=>N - (intOf ii).toNat)
 case atStart=>exact⟨0,Nat.zero_le _,rfl,fun j hj=>by omega,Below.refl _ _⟩
 case round =>
  rename World=>wo
  obtain⟨i,hi,rfl,hsame,hb⟩:=hrel
  have hzo:=hb.size
  have HSame:Hid (∀ j,j<i->(inP (es.getD j (0,0,0)).1 n && okC (es.getD j (0,0,0)).2.1 (es.getD j (0,0,0)).2.2)=true):=hsame
  clear hsame
  replace c0:=zab hb c0;replace c1:=zab hb c1
  by_cases hlt:i<N
  ·obtain⟨b,off,x,k,l,rfl,he,x0,x1,x2⟩:=(hE.below hb).at (i:=i) (by have:=HN.out;omega)
   have hltI:(i:Int)<(N:Int):=by omega
   have wk:IntKind.i64.wrap ((i:Int)+1)=(i:Int)+1:=IntWalk.i64_in _ (by have:=HS.out;omega)
   have HE:Hid (es.getD i (0,0,0)=(x,k,l)):=he
   obtain⟨y1,hb3⟩:=zaU (.cells #[.int .i64 x,.int .i64 k,.int .i64 l] 91) wo
   obtain⟨e0,e1,e2⟩:=zht y1
   have g0:=zab hb3 c0
   have g1:=zab hb3 c1
   have hb4:=zai hb hzo hb3
   clear hE he y1 hb3
   go_upto_region 6 with fail
   obtain⟨w3,hw3⟩:∃ w3,w3=wo.alloc (.cells #[.int .i64 x,.int .i64 k,.int .i64 l] 91):=⟨_,rfl⟩
   rw[<- hw3] at e0 e1 e2 g0 g1 hb4 ⊢
   clear hw3 x0 x1 x2 c0 c1 hb
   have hP:=(zbA (aLt:=Sq.altP)) x wd g n gc (by omega) w3
   obtain⟨p,ep⟩:∃ p,inP x n=p:=⟨_,rfl⟩
   obtain⟨q,eq⟩:∃ q,okC k l=q:=⟨_,rfl⟩
   have HP:Hid (inP x n=p/\okC k l=q):=⟨ep,eq⟩
   have hK:=fun w=>(zcg (aLt:=Sq.altP)) k l w
   rw[ep] at hP
   rw[eq] at hK
   clear ep eq
   rcases p with _|_
   ·go_wp2_with fail
    refine hP.mono ?_
    rintro e w4 ⟨rfl,hb5⟩
    have hb6:=zai H2.out H2.out.size (zai hb4 hb4.size hb5)
    clear hP hK e0 e1 e2 g0 g1 hb5
    go_wp2_with fail
    go_ret
    refine⟨?_,hb6⟩
    rw[zhb (i:=i) (by have:=HN.out;omega) (by rw[HE.out];have:=HP.out.1;simp[this])]
    simp
   ·go_wp2_with fail
    refine hP.mono ?_
    rintro e w4 ⟨rfl,hb5⟩
    replace e0:=zab hb5 e0;replace e1:=zab hb5 e1;replace e2:=zab hb5 e2
    have hb6:=zai hb4 hb4.size hb5
    clear hP g0 g1 hb5
    rcases q with _|_
    ·go_wp2_with fail
     refine(hK _).mono ?_
     rintro e w5 ⟨rfl,hb7⟩
     have hb8:=zai H2.out H2.out.size (zai hb6 hb6.size hb7)
     clear hK e0 e1 e2 hb7
     go_wp2_with fail
     go_ret
     refine⟨?_,hb8⟩
     rw[zhb (i:=i) (by have:=HN.out;omega) (by rw[HE.out];have:=HP.out.2;simp[this])]
     simp
    ·go_wp2_with fail
     refine(hK _).mono ?_
     rintro e w5 ⟨rfl,hb7⟩
     have hb8:=zai hb6 hb6.size hb7
     clear hK e0 e1 e2 hb7
     go_wp2_with fail
     go_roundw
     case rel =>
      refine⟨i+1,by omega,by go_num,fun j hj=>?_,hb8⟩
      rcases Nat.lt_succ_iff_lt_or_eq.1 hj with z|rfl
      ·exact HSame.out j z
      ·rw[HE.out];have:=HP.out;simp[this.1,this.2]
     case measure=>simp[intOf];omega
  ·have hnl:¬ (i:Int)<(N:Int):=by omega
   have hb6:=zai H2.out H2.out.size hb
   go_wp2_with fail
   go_ret
   refine⟨?_,hb6⟩
   have e1:zki n es=true:=zkj fun j hj=>HSame.out j (by have:=HN.out;omega)
   rw[e1]
   simp[HS.out]
set_option maxRecDepth 100000 in
theorem zeC(wd:Int)(g a:Option Addr)(gc ac n:Nat)(es:List (Int × Int × Int))(w:World)(h:zff w a es)(hn:n<=1048576)(hm:es.length<=1048576) :
  Calls SqP.prog 40 #[.agg #[.int .i64 wd,.slice g n gc],.slice a es.length ac] w fun e w'=>e=.returned (.bool (decide (es.length<=20) && zki n es))/\Below w.heap.size w w':=by
 obtain⟨N,hN⟩:∃ N,es.length=N:=⟨_,rfl⟩
 by_cases hbig:20<N
 ·have HQ:Hid (20<N):=hbig
  have hb:(20:Int)<(N:Int):=by omega
  rw[hN]
  clear h hbig hN
  go_enter SqP.func40,Tryz.ntmps40
  go_wp2_with fail
  go_ret
  exact⟨by have h:=HQ.out;have h2:¬ N<=20:=by omega
           simp[h2],bel⟩
 have hs:¬ (20:Int)<(N:Int):=by omega
 have HN:Hid (es.length=N):=hN
 have HS:Hid (N<=20):=by show _<=_;omega
 obtain⟨w2,hw2⟩:∃ w2,w2=w.alloc (.cells #[.int .i64 wd,.slice g n gc] 33):=⟨_,rfl⟩
 obtain⟨x1,hb2⟩:=zaU (.cells #[.int .i64 wd,.slice g n gc] 33) w
 rw[<- hw2] at x1 hb2
 have H2:Hid (Below w.heap.size w w2):=hb2
 have hE:=h.below hb2
 rw[hN]
 clear h hbig hN hb2 hm
 have c0:w2.cell? ⟨w.heap.size,0,none⟩=some (.int .i64 wd):=(cell_of_row _ _ 0 _ _ _ x1).trans rfl
 have c1:w2.cell? ⟨w.heap.size,1,none⟩=some (.slice g n gc):=(cell_of_row _ _ 1 _ _ _ x1).trans rfl
 clear x1
 go_enter SqP.func40,Tryz.ntmps40
 go_upto_region 1 with fail
 rw[<- hw2]
 clear hw2
 go_wp2_with fail
 go_loopw [5] (fun ii wr=>∃ i:Nat,i<=N/\ii=.int .i64 i/\(∀ j,j<i->(inP (es.getD j (0,0,0)).1 n && okC (es.getD j (0,0,0)).2.1 (es.getD j (0,0,0)).2.2)=true)/\Below w2.heap.size w2 wr) (fun ii _=>N - (intOf ii).toNat)
 case atStart=>exact⟨0,Nat.zero_le _,rfl,fun j hj=>by omega,Below.refl _ _⟩
 case round =>
  rename World=>wo
  obtain⟨i,hi,rfl,hsame,hb⟩:=hrel
  have hzo:=hb.size
  have HSame:Hid (∀ j,j<i->(inP (es.getD j (0,0,0)).1 n && okC (es.getD j (0,0,0)).2.1 (es.getD j (0,0,0)).2.2)=true):=hsame
  clear hsame
  replace c0:=zab hb c0;replace c1:=zab hb c1
  by_cases hlt:i<N
  ·obtain⟨b,off,x,k,l,rfl,he,x0,x1,x2⟩:=(hE.below hb).at (i:=i) (by have:=HN.out;omega)
   have hltI:(i:Int)<(N:Int):=by omega
   have wk:IntKind.i64.wrap ((i:Int)+1)=(i:Int)+1:=IntWalk.i64_in _ (by have:=HS.out;omega)
   have wn:IntKind.i64.wrap ((n:Int) - 1)=(n:Int) - 1:=IntWalk.i64_in _ (by omega)
   have HE:Hid (es.getD i (0,0,0)=(x,k,l)):=he
   clear hE he
   obtain⟨p,ep⟩:∃ p,inP x n=p:=⟨_,rfl⟩
   obtain⟨q,eq⟩:∃ q,okC k l=q:=⟨_,rfl⟩
   have HP:Hid (inP x n=p/\okC k l=q):=⟨ep,eq⟩
   have hCk:=fun w=>(zcj (aLt:=Sq.altP)) k l w
   have hL:=fun w=>(zaH (aLt:=Sq.altP)) x 0 ((n:Int) - 1) w
   have eB:inB x 0 ((n:Int) - 1)=inP x n:=by
    unfold inB inP
    by_cases h1:0<=x <;> by_cases h2:x<(n:Int) <;> simp[h1,h2] <;> omega
   simp only[eB,ep] at hL
   rw[eq] at hCk
   clear ep eq eB
   rcases q with _|_
   ·clear hL
    go_wp2
    refine wp_region_held_drew (S:=(fun w'=>(w'.cell? ⟨b,off+i * 3,none⟩=some (.int .i64 x)/\w'.cell? ⟨b,off+i * 3+1,none⟩=some (.int .i64 k)/\w'.cell? ⟨b,off+i * 3+2,none⟩=some (.int .i64 l))/\w'.cell? ⟨w.heap.size,0,none⟩=some (.int .i64 wd)/\w'.cell? ⟨w.heap.size,1,none⟩=some (.slice g n gc))) (by kernel_rfl) ?_ (fun hHeld=>?_)
    ·exact⟨⟨x0,x1,x2⟩,c0,c1⟩
    refine wpAnyH_take (i:=0) (oi:={ dst:=some 15,op:=.move (.tmp 1),type:=53,pos:= "l13_scene.go:97",after:=#[],guard:=none }) (v:=?vs0) rfl (by kernel_rfl) (by kernel_rfl) (by kernel_rfl) (fun _ _ _ h=>h) (Or.inl ⟨by rfl,?hys0⟩) (by assumption) ?rests0
    case hys0=>(intro w hSw;(try dsimp only at hSw);go_simp;try (with_reducible rfl))
    (try simp only[Act.put,List.setIfInBounds_toArray,List.set_cons_zero,List.set_cons_succ])
    refine wpAnyH_take (i:=1) (oi:={ dst:=some 16,op:=.move (.tmp 5),type:=3,pos:= "l13_scene.go:97",after:=#[],guard:=none }) (v:=?vs1) rfl (by kernel_rfl) (by kernel_rfl) (by kernel_rfl) (fun _ _ _ h=>h) (Or.inl ⟨by rfl,?hys1⟩) (by assumption) ?rests1
    case hys1=>(intro w hSw;(try dsimp only at hSw);go_simp;try (with_reducible rfl))
    (try simp only[Act.put,List.setIfInBounds_toArray,List.set_cons_zero,List.set_cons_succ])
    refine wpAnyH_take (i:=2) (oi:={ dst:=some 17,op:=.indexAddr 53 (.tmp 15) (.tmp 16),type:=0,pos:= "l13_scene.go:97",after:=#[{ on:=0,ground:=.data },{ on:=1,ground:=.data }],guard:=none }) (v:=?vs2) rfl (by kernel_rfl) (by kernel_rfl) (by kernel_rfl) (fun _ _ _ h=>h) (Or.inl ⟨by rfl,?hys2⟩) (by assumption) ?rests2
    case hys2=>(intro w hSw;(try dsimp only at hSw);go_simp;try (with_reducible rfl))
    (try simp only[Act.put,List.setIfInBounds_toArray,List.set_cons_zero,List.set_cons_succ])
    refine wpAnyH_take (i:=3) (oi:={ dst:=some 18,op:=.fieldAddr 91 (.tmp 17) 1,type:=0,pos:= "l13_scene.go:97",after:=#[{ on:=2,ground:=.data }],guard:=none }) (v:=?vs3) rfl (by kernel_rfl) (by kernel_rfl) (by kernel_rfl) (fun _ _ _ h=>h) (Or.inl ⟨by rfl,?hys3⟩) (by assumption) ?rests3
    case hys3=>(intro w hSw;(try dsimp only at hSw);go_simp;try (with_reducible rfl))
    (try simp only[Act.put,List.setIfInBounds_toArray,List.set_cons_zero,List.set_cons_succ])
    refine wpAnyH_take (i:=4) (oi:={ dst:=some 19,op:=.load 89 (.tmp 18),type:=89,pos:= "l13_scene.go:97",after:=#[{ on:=3,ground:=.data }],guard:=none }) (v:=?vs4) rfl (by kernel_rfl) (by kernel_rfl) (by kernel_rfl) (fun _ _ _ h=>h) (Or.inl ⟨by rfl,?hys4⟩) (by assumption) ?rests4
    case hys4=>(intro w hSw;(try dsimp only at hSw);go_simp;try (with_reducible rfl))
    (try simp only[Act.put,List.setIfInBounds_toArray,List.set_cons_zero,List.set_cons_succ])
    refine wpAnyH_ready (rs:=[5]) (by kernel_rfl) (by simp) ?_
    refine AllReadyH.cons (o:={ dst:=some 20,op:=.call { callee:=.value (.func 56),args:=#[.tmp 19],argTypes:=#[89] },type:=4,pos:= "l13_scene.go:97",after:=#[{ on:=4,ground:=.data }],guard:=none }) rfl (fun K hK=>?_) AllReadyH.nil
    go_simp
    (go_at_call 56;refine(hCk _).mono ?_;rintro e w7 ⟨rfl,hb7'⟩;have hb7:Below wo.heap.size wo w7:=(by first|exact hb7'|exact zbH hb7'))
    (try go_wp2_with fail)
    refine hK.out _ _ ?_ (fun hHeld=>?_)
    ·exact⟨⟨zab hb7 x0,zab hb7 x1,zab hb7 x2⟩,zab hb7 c0,zab hb7 c1⟩
    clear hK K
    (try simp only[Act.put,List.setIfInBounds_toArray,List.set_cons_zero,List.set_cons_succ])
    refine wpAnyH_take (i:=6) (oi:={ dst:=some 21,op:=.unOp .not 4 (.tmp 20),type:=4,pos:= "l13_scene.go:97",after:=#[{ on:=5,ground:=.data }],guard:=none }) (v:=?vs6) rfl (by kernel_rfl) (by kernel_rfl) (by kernel_rfl) (fun _ _ _ h=>h) (Or.inl ⟨by rfl,?hys6⟩) (by assumption) ?rests6
    case hys6=>(intro w hSw;(try dsimp only at hSw);go_simp;try (with_reducible rfl))
    (try simp only[Act.put,List.setIfInBounds_toArray,List.set_cons_zero,List.set_cons_succ])
    refine wpAnyH_take (i:=7) (oi:={ dst:=some 22,op:=.move (.tmp 21),type:=4,pos:= "l13_scene.go:97",after:=#[{ on:=6,ground:=.data },{ on:=5,ground:=.chain }],guard:=none }) (v:=?vs7) rfl (by kernel_rfl) (by kernel_rfl) (by kernel_rfl) (fun _ _ _ h=>h) (Or.inl ⟨by rfl,?hys7⟩) (by assumption) ?rests7
    case hys7=>(intro w hSw;(try dsimp only at hSw);go_simp;try (with_reducible rfl))
    (try simp only[Act.put,List.setIfInBounds_toArray,List.set_cons_zero,List.set_cons_succ])
    refine wpAnyH_take (i:=8) (oi:={ dst:=some 23,op:=.move (.tmp 1),type:=53,pos:= "l13_scene.go:97",after:=#[{ on:=7,ground:=.guard }],guard:=some (7,false) }) (v:=undef) rfl (by kernel_rfl) (by kernel_rfl) (by kernel_rfl) (fun _ _ _ h=>h) (Or.inr ⟨by rfl,rfl⟩) (by assumption) ?_
    (try simp only[Act.put,List.setIfInBounds_toArray,List.set_cons_zero,List.set_cons_succ])
    refine wpAnyH_take (i:=9) (oi:={ dst:=some 24,op:=.move (.tmp 5),type:=3,pos:= "l13_scene.go:97",after:=#[{ on:=7,ground:=.guard }],guard:=some (7,false) }) (v:=undef) rfl (by kernel_rfl) (by kernel_rfl) (by kernel_rfl) (fun _ _ _ h=>h) (Or.inr ⟨by rfl,rfl⟩) (by assumption) ?_
    (try simp only[Act.put,List.setIfInBounds_toArray,List.set_cons_zero,List.set_cons_succ])
    refine wpAnyH_take (i:=10) (oi:={ dst:=some 25,op:=.indexAddr 53 (.tmp 23) (.tmp 24),type:=0,pos:= "l13_scene.go:97",after:=#[{ on:=8,ground:=.data },{ on:=9,ground:=.data },{ on:=7,ground:=.guard }],guard:=some (7,false) }) (v:=undef) rfl (by kernel_rfl) (by kernel_rfl) (by kernel_rfl) (fun _ _ _ h=>h) (Or.inr ⟨by rfl,rfl⟩) (by assumption) ?_
    (try simp only[Act.put,List.setIfInBounds_toArray,List.set_cons_zero,List.set_cons_succ])
    refine wpAnyH_take (i:=11) (oi:={ dst:=some 26,op:=.fieldAddr 91 (.tmp 25) 0,type:=0,pos:= "l13_scene.go:97",after:=#[{ on:=10,ground:=.data },{ on:=7,ground:=.guard }],guard:=some (7,false) }) (v:=undef) rfl (by kernel_rfl) (by kernel_rfl) (by kernel_rfl) (fun _ _ _ h=>h) (Or.inr ⟨by rfl,rfl⟩) (by assumption) ?_
    (try simp only[Act.put,List.setIfInBounds_toArray,List.set_cons_zero,List.set_cons_succ])
    refine wpAnyH_take (i:=12) (oi:={ dst:=some 27,op:=.load 3 (.tmp 26),type:=3,pos:= "l13_scene.go:97",after:=#[{ on:=11,ground:=.data },{ on:=7,ground:=.guard }],guard:=some (7,false) }) (v:=undef) rfl (by kernel_rfl) (by kernel_rfl) (by kernel_rfl) (fun _ _ _ h=>h) (Or.inr ⟨by rfl,rfl⟩) (by assumption) ?_
    (try simp only[Act.put,List.setIfInBounds_toArray,List.set_cons_zero,List.set_cons_succ])
    refine wpAnyH_take (i:=13) (oi:={ dst:=some 28,op:=.fieldAddr 33 (.tmp 2) 1,type:=0,pos:= "l13_scene.go:97",after:=#[{ on:=7,ground:=.guard }],guard:=some (7,false) }) (v:=undef) rfl (by kernel_rfl) (by kernel_rfl) (by kernel_rfl) (fun _ _ _ h=>h) (Or.inr ⟨by rfl,rfl⟩) (by assumption) ?_
    (try simp only[Act.put,List.setIfInBounds_toArray,List.set_cons_zero,List.set_cons_succ])
    refine wpAnyH_take (i:=14) (oi:={ dst:=some 29,op:=.load 31 (.tmp 28),type:=31,pos:= "l13_scene.go:97",after:=#[{ on:=13,ground:=.data },{ on:=7,ground:=.guard }],guard:=some (7,false) }) (v:=undef) rfl (by kernel_rfl) (by kernel_rfl) (by kernel_rfl) (fun _ _ _ h=>h) (Or.inr ⟨by rfl,rfl⟩) (by assumption) ?_
    (try simp only[Act.put,List.setIfInBounds_toArray,List.set_cons_zero,List.set_cons_succ])
    refine wpAnyH_take (i:=15) (oi:={ dst:=some 30,op:=.call { callee:=.builtin Go.Builtin.len,args:=#[.tmp 29],argTypes:=#[31] },type:=3,pos:= "l13_scene.go:97",after:=#[{ on:=14,ground:=.data },{ on:=7,ground:=.guard }],guard:=some (7,false) }) (v:=undef) rfl (by kernel_rfl) (by kernel_rfl) (by kernel_rfl) (fun _ _ _ h=>h) (Or.inr ⟨by rfl,rfl⟩) (by assumption) ?_
    (try simp only[Act.put,List.setIfInBounds_toArray,List.set_cons_zero,List.set_cons_succ])
    refine wpAnyH_take (i:=16) (oi:={ dst:=some 31,op:=.binOp .sub 3 (.tmp 30) (.const (.int Go.IntKind.i64 1)) 3,type:=3,pos:= "l13_scene.go:97",after:=#[{ on:=15,ground:=.data },{ on:=7,ground:=.guard }],guard:=some (7,false) }) (v:=undef) rfl (by kernel_rfl) (by kernel_rfl) (by kernel_rfl) (fun _ _ _ h=>h) (Or.inr ⟨by rfl,rfl⟩) (by assumption) ?_
    (try simp only[Act.put,List.setIfInBounds_toArray,List.set_cons_zero,List.set_cons_succ])
    refine wpAnyH_take (i:=17) (oi:={ dst:=some 32,op:=.call { callee:=.value (.func 36),args:=#[.tmp 27,.const (.int Go.IntKind.i64 0),.tmp 31],argTypes:=#[3,3,3] },type:=4,pos:= "l13_scene.go:97",after:=#[{ on:=12,ground:=.data },{ on:=16,ground:=.data },{ on:=7,ground:=.chain },{ on:=7,ground:=.guard }],guard:=some (7,false) }) (v:=undef) rfl (by kernel_rfl) (by kernel_rfl) (by kernel_rfl) (fun _ _ _ h=>h) (Or.inr ⟨by rfl,rfl⟩) (by assumption) ?_
    (try simp only[Act.put,List.setIfInBounds_toArray,List.set_cons_zero,List.set_cons_succ])
    refine wpAnyH_take (i:=18) (oi:={ dst:=some 33,op:=.unOp .not 4 (.tmp 32),type:=4,pos:= "l13_scene.go:97",after:=#[{ on:=17,ground:=.data },{ on:=7,ground:=.guard }],guard:=some (7,false) }) (v:=undef) rfl (by kernel_rfl) (by kernel_rfl) (by kernel_rfl) (fun _ _ _ h=>h) (Or.inr ⟨by rfl,rfl⟩) (by assumption) ?_
    (try simp only[Act.put,List.setIfInBounds_toArray,List.set_cons_zero,List.set_cons_succ])
    refine wpAnyH_take (i:=19) (oi:={ dst:=some 34,op:=.pick (.tmp 22) (.const (.bool true)) (.tmp 33),type:=4,pos:= "l13_scene.go:97",after:=#[{ on:=7,ground:=.data },{ on:=18,ground:=.data }],guard:=none }) (v:=?vs19) rfl (by kernel_rfl) (by kernel_rfl) (by kernel_rfl) (fun _ _ _ h=>h) (Or.inl ⟨by rfl,?hys19⟩) (by assumption) ?rests19
    case hys19=>(intro w hSw;(try dsimp only at hSw);go_simp;try (with_reducible rfl))
    (try simp only[Act.put,List.setIfInBounds_toArray,List.set_cons_zero,List.set_cons_succ])
    refine wpAnyH_done (by kernel_rfl) ?_ _
    have hb8:=zai H2.out H2.out.size (zai hb hzo hb7)
    go_wp2_with fail
    go_ret
    refine⟨?_,by first|exact hb8|exact hb8.drew⟩
    rw[zhb (i:=i) (by have:=HN.out;omega) (by rw[HE.out];have:=HP.out.2;simp[this])]
    simp
   ·rcases p with _|_
    all_goals
     go_wp2
     go_region_held3 (fun w'=>(w'.cell? ⟨b,off+i * 3,none⟩=some (.int .i64 x)/\w'.cell? ⟨b,off+i * 3+1,none⟩=some (.int .i64 k)/\w'.cell? ⟨b,off+i * 3+2,none⟩=some (.int .i64 l))/\w'.cell? ⟨w.heap.size,0,none⟩=some (.int .i64 wd)/\w'.cell? ⟨w.heap.size,1,none⟩=some (.slice g n gc))
      (first
       | exact⟨⟨zab hb7 x0,zab hb7 x1,zab hb7 x2⟩,zab hb7 c0,zab hb7 c1⟩
       | exact⟨⟨x0,x1,x2⟩,c0,c1⟩
       | go_keep)
      (first
       | (go_at_call 56;refine(hCk _).mono ?_;rintro e w7 ⟨rfl,hb7'⟩;have hb7:Below wo.heap.size wo w7:=(by first|exact hb7'|exact zbH hb7'))
       | (go_at_call 36;refine(hL _).mono ?_;rintro e w8 ⟨rfl,rfl⟩)
       | fail)
    ·have hb8:=zai H2.out H2.out.size (zai hb hzo hb7)
     go_wp2_with fail
     go_ret
     refine⟨?_,by first|exact hb8|exact hb8.drew⟩
     rw[zhb (i:=i) (by have:=HN.out;omega) (by rw[HE.out];have:=HP.out.1;simp[this])]
     simp
    ·have hb8:=zai hb hzo hb7
     go_wp2_with fail
     go_roundw
     case rel =>
      refine⟨i+1,by omega,by go_num,fun j hj=>?_,by first|exact hb8|exact hb8.drew⟩
      rcases Nat.lt_succ_iff_lt_or_eq.1 hj with z|rfl
      ·exact HSame.out j z
      ·rw[HE.out];have:=HP.out;simp[this.1,this.2]
     case measure=>simp[intOf];omega
  ·have hnl:¬ (i:Int)<(N:Int):=by omega
   have hb6:=zai H2.out H2.out.size hb
   go_wp2_with fail
   go_ret
   refine⟨?_,hb6⟩
   have e1:zki n es=true:=zkj fun j hj=>HSame.out j (by have:=HN.out;omega)
   rw[e1]
   simp[HS.out]
