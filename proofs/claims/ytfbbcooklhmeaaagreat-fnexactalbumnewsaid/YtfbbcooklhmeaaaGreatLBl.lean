/- Of the proof: PFv -/
import Derived.Test.YtfbbcooklhmeaaaGreatLBd
import Derived.Test.YtfbbcooklhmeaaaGreatLBk
set_option maxHeartbeats 1000000
set_option linter.unusedVariables false
namespace Go.Proofs.YtfbbcooklhmeaaaGreat
variable {cs:List (Int × Int)} {f:Nat->Nat->Int} {ad:Nat->Option Addr} {S:Nat->Prop} {a:Option Addr} {w w':World}
namespace Sp
open Go.RowKit
attribute [local go_sem ↓] Go.wp_at_zero Go.wp_at_succ
theorem zha (o o2:Obj) (w:World):zbO w ((w.alloc o).alloc o2) [(w.heap.size + 1,o2),(w.heap.size,o)]:=by
 have h1:zbO w w []:=⟨Below.refl _ _,(fun _ h=>nomatch h),List.nodup_nil⟩
 have h2:=(h1.made o).made o2
 have e:(w.alloc o).heap.size=w.heap.size + 1:=Array.size_push _
 rw [e] at h2
 exact h2
theorem zl6 (wd:Int) (cs:List (Int × Int)) (M:Nat) (ga ga2 la la2 fa fa2:Option Addr) (gc gc2 lc lc2 fc fc2 lo hi lo2 hi2:Nat) (ad ad2:Nat->Option Addr) (n cp cp2:Nat->Nat) (l:Nat->Int) (f:Nat->Nat->Int) (w:World)
  (hg:zai w ga cs) (hg2:zai w ga2 cs) (hl:RI w la (M * 1) l) (hl2:RI w la2 (M * 1) l) (hf:zba w lo hi fa M ad n cp f) (hf2:zba w lo2 hi2 fa2 M ad2 n cp2 f) (hm:cs.length<=1048576) (hM:M<=20) (hn:∀ k,k < M->n k<=1000) :
  Calls SqP.prog 17 #[.agg #[.int .i64 wd,.slice ga cs.length gc,.slice la M lc,.slice fa M fc],.agg #[.int .i64 wd,.slice ga2 cs.length gc2,.slice la2 M lc2,.slice fa2 M fc2]] w fun e w'=>e=.returned (.bool true)/\Below w.heap.size w w':=by
 obtain ⟨w2,hw2⟩:∃ w2,w2=(w.alloc (.cells #[.int .i64 wd,.slice ga cs.length gc,.slice la M lc,.slice fa M fc] 32)).alloc (.cells #[.int .i64 wd,.slice ga2 cs.length gc2,.slice la2 M lc2,.slice fa2 M fc2] 32):=⟨_,rfl⟩
 have H2:Hid (zbO w w2 [(w.heap.size + 1,.cells #[.int .i64 wd,.slice ga2 cs.length gc2,.slice la2 M lc2,.slice fa2 M fc2] 32),(w.heap.size,.cells #[.int .i64 wd,.slice ga cs.length gc,.slice la M lc,.slice fa M fc] 32)]):=by rw [hw2]; exact zha _ _ w
 have HG:Hid (zai w ga cs/\zai w ga2 cs):=⟨hg,hg2⟩
 have HL:Hid (RI w la (M * 1) l/\RI w la2 (M * 1) l):=⟨hl,hl2⟩
 have HF:Hid (zba w lo hi fa M ad n cp f/\zba w lo2 hi2 fa2 M ad2 n cp2 f):=⟨hf,hf2⟩
 have hG:=(zgk (aLt:=Sq.altP)) wd wd ga ga2 gc gc2 cs cs w2 (hg.below H2.out.below) (hg2.below H2.out.below) hm hm
 have eG:eqG wd wd cs cs=true:=by simp [eqG]
 rw [eG] at hG
 clear eG
 clear hg hg2 hl hl2 hf hf2
 go_enter SqP.func17,Tryz.ntmps17
 go_upto_region 1 with fail
 rw [<- hw2]
 clear hw2
 have c0:w2.cell? ⟨w.heap.size,0,none⟩=some (.int .i64 wd):=(cell_of_row _ _ 0 _ _ _ (H2.out.lies (w.heap.size,.cells #[.int .i64 wd,.slice ga cs.length gc,.slice la M lc,.slice fa M fc] 32) (by simp)).1).trans rfl
 have c1:w2.cell? ⟨w.heap.size,1,none⟩=some (.slice ga cs.length gc):=(cell_of_row _ _ 1 _ _ _ (H2.out.lies (w.heap.size,.cells #[.int .i64 wd,.slice ga cs.length gc,.slice la M lc,.slice fa M fc] 32) (by simp)).1).trans rfl
 have c2:w2.cell? ⟨w.heap.size,2,none⟩=some (.slice la M lc):=(cell_of_row _ _ 2 _ _ _ (H2.out.lies (w.heap.size,.cells #[.int .i64 wd,.slice ga cs.length gc,.slice la M lc,.slice fa M fc] 32) (by simp)).1).trans rfl
 have c3:w2.cell? ⟨w.heap.size,3,none⟩=some (.slice fa M fc):=(cell_of_row _ _ 3 _ _ _ (H2.out.lies (w.heap.size,.cells #[.int .i64 wd,.slice ga cs.length gc,.slice la M lc,.slice fa M fc] 32) (by simp)).1).trans rfl
 have d0:w2.cell? ⟨(w.heap.size + 1),0,none⟩=some (.int .i64 wd):=(cell_of_row _ _ 0 _ _ _ (H2.out.lies ((w.heap.size + 1),.cells #[.int .i64 wd,.slice ga2 cs.length gc2,.slice la2 M lc2,.slice fa2 M fc2] 32) (by simp)).1).trans rfl
 have d1:w2.cell? ⟨(w.heap.size + 1),1,none⟩=some (.slice ga2 cs.length gc2):=(cell_of_row _ _ 1 _ _ _ (H2.out.lies ((w.heap.size + 1),.cells #[.int .i64 wd,.slice ga2 cs.length gc2,.slice la2 M lc2,.slice fa2 M fc2] 32) (by simp)).1).trans rfl
 have d2:w2.cell? ⟨(w.heap.size + 1),2,none⟩=some (.slice la2 M lc2):=(cell_of_row _ _ 2 _ _ _ (H2.out.lies ((w.heap.size + 1),.cells #[.int .i64 wd,.slice ga2 cs.length gc2,.slice la2 M lc2,.slice fa2 M fc2] 32) (by simp)).1).trans rfl
 have d3:w2.cell? ⟨(w.heap.size + 1),3,none⟩=some (.slice fa2 M fc2):=(cell_of_row _ _ 3 _ _ _ (H2.out.lies ((w.heap.size + 1),.cells #[.int .i64 wd,.slice ga2 cs.length gc2,.slice la2 M lc2,.slice fa2 M fc2] 32) (by simp)).1).trans rfl
 go_wp2_with fail
 refine (hG).mono ?_
 rintro e w3 ⟨rfl,hb⟩
 have H3:Hid (zbO w w3 [(w.heap.size + 1,.cells #[.int .i64 wd,.slice ga2 cs.length gc2,.slice la2 M lc2,.slice fa2 M fc2] 32),(w.heap.size,.cells #[.int .i64 wd,.slice ga cs.length gc,.slice la M lc,.slice fa M fc] 32)]):=H2.out.on hb
 clear hb
 clear hG
 clear c0 c1 c2 c3 d0 d1 d2 d3
 have c0:w3.cell? ⟨w.heap.size,0,none⟩=some (.int .i64 wd):=(cell_of_row _ _ 0 _ _ _ (H3.out.lies (w.heap.size,.cells #[.int .i64 wd,.slice ga cs.length gc,.slice la M lc,.slice fa M fc] 32) (by simp)).1).trans rfl
 have c1:w3.cell? ⟨w.heap.size,1,none⟩=some (.slice ga cs.length gc):=(cell_of_row _ _ 1 _ _ _ (H3.out.lies (w.heap.size,.cells #[.int .i64 wd,.slice ga cs.length gc,.slice la M lc,.slice fa M fc] 32) (by simp)).1).trans rfl
 have c2:w3.cell? ⟨w.heap.size,2,none⟩=some (.slice la M lc):=(cell_of_row _ _ 2 _ _ _ (H3.out.lies (w.heap.size,.cells #[.int .i64 wd,.slice ga cs.length gc,.slice la M lc,.slice fa M fc] 32) (by simp)).1).trans rfl
 have c3:w3.cell? ⟨w.heap.size,3,none⟩=some (.slice fa M fc):=(cell_of_row _ _ 3 _ _ _ (H3.out.lies (w.heap.size,.cells #[.int .i64 wd,.slice ga cs.length gc,.slice la M lc,.slice fa M fc] 32) (by simp)).1).trans rfl
 have d0:w3.cell? ⟨(w.heap.size + 1),0,none⟩=some (.int .i64 wd):=(cell_of_row _ _ 0 _ _ _ (H3.out.lies ((w.heap.size + 1),.cells #[.int .i64 wd,.slice ga2 cs.length gc2,.slice la2 M lc2,.slice fa2 M fc2] 32) (by simp)).1).trans rfl
 have d1:w3.cell? ⟨(w.heap.size + 1),1,none⟩=some (.slice ga2 cs.length gc2):=(cell_of_row _ _ 1 _ _ _ (H3.out.lies ((w.heap.size + 1),.cells #[.int .i64 wd,.slice ga2 cs.length gc2,.slice la2 M lc2,.slice fa2 M fc2] 32) (by simp)).1).trans rfl
 have d2:w3.cell? ⟨(w.heap.size + 1),2,none⟩=some (.slice la2 M lc2):=(cell_of_row _ _ 2 _ _ _ (H3.out.lies ((w.heap.size + 1),.cells #[.int .i64 wd,.slice ga2 cs.length gc2,.slice la2 M lc2,.slice fa2 M fc2] 32) (by simp)).1).trans rfl
 have d3:w3.cell? ⟨(w.heap.size + 1),3,none⟩=some (.slice fa2 M fc2):=(cell_of_row _ _ 3 _ _ _ (H3.out.lies ((w.heap.size + 1),.cells #[.int .i64 wd,.slice ga2 cs.length gc2,.slice la2 M lc2,.slice fa2 M fc2] 32) (by simp)).1).trans rfl
 go_wp2_with fail
 refine (zfg la la2 lc lc2 M l w3 (HL.out.1.below H3.out.below) (HL.out.2.below H3.out.below) (by omega)).mono ?_
 rintro e w4 ⟨rfl,hb⟩
 have H4:Hid (zbO w w4 [(w.heap.size + 1,.cells #[.int .i64 wd,.slice ga2 cs.length gc2,.slice la2 M lc2,.slice fa2 M fc2] 32),(w.heap.size,.cells #[.int .i64 wd,.slice ga cs.length gc,.slice la M lc,.slice fa M fc] 32)]):=H3.out.on hb
 clear hb
 skip
 clear c0 c1 c2 c3 d0 d1 d2 d3
 have c0:w4.cell? ⟨w.heap.size,0,none⟩=some (.int .i64 wd):=(cell_of_row _ _ 0 _ _ _ (H4.out.lies (w.heap.size,.cells #[.int .i64 wd,.slice ga cs.length gc,.slice la M lc,.slice fa M fc] 32) (by simp)).1).trans rfl
 have c1:w4.cell? ⟨w.heap.size,1,none⟩=some (.slice ga cs.length gc):=(cell_of_row _ _ 1 _ _ _ (H4.out.lies (w.heap.size,.cells #[.int .i64 wd,.slice ga cs.length gc,.slice la M lc,.slice fa M fc] 32) (by simp)).1).trans rfl
 have c2:w4.cell? ⟨w.heap.size,2,none⟩=some (.slice la M lc):=(cell_of_row _ _ 2 _ _ _ (H4.out.lies (w.heap.size,.cells #[.int .i64 wd,.slice ga cs.length gc,.slice la M lc,.slice fa M fc] 32) (by simp)).1).trans rfl
 have c3:w4.cell? ⟨w.heap.size,3,none⟩=some (.slice fa M fc):=(cell_of_row _ _ 3 _ _ _ (H4.out.lies (w.heap.size,.cells #[.int .i64 wd,.slice ga cs.length gc,.slice la M lc,.slice fa M fc] 32) (by simp)).1).trans rfl
 have d0:w4.cell? ⟨(w.heap.size + 1),0,none⟩=some (.int .i64 wd):=(cell_of_row _ _ 0 _ _ _ (H4.out.lies ((w.heap.size + 1),.cells #[.int .i64 wd,.slice ga2 cs.length gc2,.slice la2 M lc2,.slice fa2 M fc2] 32) (by simp)).1).trans rfl
 have d1:w4.cell? ⟨(w.heap.size + 1),1,none⟩=some (.slice ga2 cs.length gc2):=(cell_of_row _ _ 1 _ _ _ (H4.out.lies ((w.heap.size + 1),.cells #[.int .i64 wd,.slice ga2 cs.length gc2,.slice la2 M lc2,.slice fa2 M fc2] 32) (by simp)).1).trans rfl
 have d2:w4.cell? ⟨(w.heap.size + 1),2,none⟩=some (.slice la2 M lc2):=(cell_of_row _ _ 2 _ _ _ (H4.out.lies ((w.heap.size + 1),.cells #[.int .i64 wd,.slice ga2 cs.length gc2,.slice la2 M lc2,.slice fa2 M fc2] 32) (by simp)).1).trans rfl
 have d3:w4.cell? ⟨(w.heap.size + 1),3,none⟩=some (.slice fa2 M fc2):=(cell_of_row _ _ 3 _ _ _ (H4.out.lies ((w.heap.size + 1),.cells #[.int .i64 wd,.slice ga2 cs.length gc2,.slice la2 M lc2,.slice fa2 M fc2] 32) (by simp)).1).trans rfl
 go_wp2_with fail
 refine (zl5 fa fa2 fc fc2 M lo hi lo2 hi2 ad ad2 n cp cp2 f w4 (HF.out.1.below H4.out.below) (HF.out.2.below H4.out.below) (by omega) hn).mono ?_
 rintro e w5 ⟨rfl,hb⟩
 have H5:Hid (zbO w w5 [(w.heap.size + 1,.cells #[.int .i64 wd,.slice ga2 cs.length gc2,.slice la2 M lc2,.slice fa2 M fc2] 32),(w.heap.size,.cells #[.int .i64 wd,.slice ga cs.length gc,.slice la M lc,.slice fa M fc] 32)]):=H4.out.on hb
 clear hb
 skip
 clear c0 c1 c2 c3 d0 d1 d2 d3
 go_wp2_with fail
 go_ret
 exact ⟨rfl,H5.out.below⟩
theorem zi5 (wd k0 k1 k2 k3:Int) (N M:Nat) (ga la fa:Option Addr) (gc lc fc lo hi:Nat) (ad:Nat->Option Addr) (n cp:Nat->Nat) (w:World) (e1:k1=k0 + 2 * (N:Int)) (e2:k2=k1 + 1 * (M:Int)) (e3:k3=k2 + (zb1 n M:Int)) (hk0:0<=k0/\k0<=1000)
  (hg:zai w ga (marks k0 N)) (hl:RI w la (M * 1) (fun j=>k1 + (j:Int))) (hf:zba w lo hi fa M ad n cp (fun k j=>k2 + (zb1 n k:Int) + (j:Int))) (hm:N<=1000) (hM:M<=20) (hn:∀ k,k < M->n k<=1000) :
  Calls SqP.prog 23 #[.agg #[.int .i64 wd,.slice ga N gc,.slice la M lc,.slice fa M fc],.int .i64 k0] w fun e w'=>e=.returned (.int .i64 k3)/\Below w.heap.size w w':=by
 obtain ⟨w2,hw2⟩:∃ w2,w2=w.alloc (.cells #[.int .i64 wd,.slice ga N gc,.slice la M lc,.slice fa M fc] 32):=⟨_,rfl⟩
 have H2:Hid (zbO w w2 [(w.heap.size,.cells #[.int .i64 wd,.slice ga N gc,.slice la M lc,.slice fa M fc] 32)]):=by
  rw [hw2]
  have h1:zbO w w []:=⟨Below.refl _ _,(fun _ h=>nomatch h),List.nodup_nil⟩
  exact h1.made _
 have hsR:=zhq hn M (Nat.le_refl _)
 have b1:decide (k1 < 0)=false:=decide_eq_false (by omega)
 have b2:decide (k2 < 0)=false:=decide_eq_false (by omega)
 have b3:decide (k3 < 0)=false:=decide_eq_false (by omega)
 have hk1:0<=k1/\k1<=1099511627776:=by omega
 have hk2:0<=k2/\k2<=1000000:=by omega
 have hG:=(zhO (aLt:=Sq.altP)) wd k0 ga N gc w2 (hg.below H2.out.below) (by omega) (by omega)
 rw [<- e1] at hG
 have hL:=fun w=>(zer (aLt:=Sq.altP)) k1 la M lc w
 rw [<- e2] at hL
 have hF:=fun w h=>(zi4 (aLt:=Sq.altP)) k2 hk2 fa fc M lo hi ad n cp w h hM hn
 rw [<- e3] at hF
 have HL:Hid (RI w la (M * 1) (fun j=>k1 + (j:Int))):=hl
 have HF:Hid (zba w lo hi fa M ad n cp (fun k j=>k2 + (zb1 n k:Int) + (j:Int))):=hf
 clear hg hl hf e1 e2 e3 hsR
 go_enter SqP.func23,Tryz.ntmps23
 go_upto_region 1 with fail
 rw [<- hw2]
 clear hw2
 have c0:w2.cell? ⟨w.heap.size,0,none⟩=some (.int .i64 wd):=(cell_of_row _ _ 0 _ _ _ (H2.out.lies (w.heap.size,.cells #[.int .i64 wd,.slice ga N gc,.slice la M lc,.slice fa M fc] 32) (by simp)).1).trans rfl
 have c1:w2.cell? ⟨w.heap.size,1,none⟩=some (.slice ga N gc):=(cell_of_row _ _ 1 _ _ _ (H2.out.lies (w.heap.size,.cells #[.int .i64 wd,.slice ga N gc,.slice la M lc,.slice fa M fc] 32) (by simp)).1).trans rfl
 have c2:w2.cell? ⟨w.heap.size,2,none⟩=some (.slice la M lc):=(cell_of_row _ _ 2 _ _ _ (H2.out.lies (w.heap.size,.cells #[.int .i64 wd,.slice ga N gc,.slice la M lc,.slice fa M fc] 32) (by simp)).1).trans rfl
 have c3:w2.cell? ⟨w.heap.size,3,none⟩=some (.slice fa M fc):=(cell_of_row _ _ 3 _ _ _ (H2.out.lies (w.heap.size,.cells #[.int .i64 wd,.slice ga N gc,.slice la M lc,.slice fa M fc] 32) (by simp)).1).trans rfl
 go_wp2_with fail
 refine hG.mono ?_
 rintro e w3 ⟨rfl,hb⟩
 have H3:Hid (zbO w w3 [(w.heap.size,.cells #[.int .i64 wd,.slice ga N gc,.slice la M lc,.slice fa M fc] 32)]):=H2.out.on hb
 clear hb hG
 clear c0 c1 c2 c3
 have c0:w3.cell? ⟨w.heap.size,0,none⟩=some (.int .i64 wd):=(cell_of_row _ _ 0 _ _ _ (H3.out.lies (w.heap.size,.cells #[.int .i64 wd,.slice ga N gc,.slice la M lc,.slice fa M fc] 32) (by simp)).1).trans rfl
 have c1:w3.cell? ⟨w.heap.size,1,none⟩=some (.slice ga N gc):=(cell_of_row _ _ 1 _ _ _ (H3.out.lies (w.heap.size,.cells #[.int .i64 wd,.slice ga N gc,.slice la M lc,.slice fa M fc] 32) (by simp)).1).trans rfl
 have c2:w3.cell? ⟨w.heap.size,2,none⟩=some (.slice la M lc):=(cell_of_row _ _ 2 _ _ _ (H3.out.lies (w.heap.size,.cells #[.int .i64 wd,.slice ga N gc,.slice la M lc,.slice fa M fc] 32) (by simp)).1).trans rfl
 have c3:w3.cell? ⟨w.heap.size,3,none⟩=some (.slice fa M fc):=(cell_of_row _ _ 3 _ _ _ (H3.out.lies (w.heap.size,.cells #[.int .i64 wd,.slice ga N gc,.slice la M lc,.slice fa M fc] 32) (by simp)).1).trans rfl
 go_wp2_with fail
 refine (hL w3 (HL.out.below H3.out.below) (by omega) hk1).mono ?_
 rintro e w4 ⟨rfl,rfl⟩
 go_wp2_with fail
 refine (hF _ (HF.out.below H3.out.below)).mono ?_
 rintro e w5 ⟨rfl,rfl⟩
 go_wp2_with fail
 go_ret
 exact ⟨rfl,H3.out.below⟩
theorem zbn.imp {S':Nat->Prop} (h:zbn S w w') (hi:∀ e,S e->S' e):zbn S' w w':=⟨h.os,h.tape,h.output,h.size,fun k hk hn=>h.block k hk (fun q=>hn (hi k q))⟩
theorem zbn.trans {w1 w2:World} (h:zbn S w w1) (h2:zbn S w1 w2):zbn S w w2:=⟨h2.os.trans h.os,h2.tape.trans h.tape,h2.output.trans h.output,Nat.le_trans h.size h2.size,fun k hk hn=>(h2.block k (nll hk h.size) hn).trans (h.block k hk hn)⟩
theorem zbn.of (h:Below w.heap.size w w'):zbn S w w':=⟨h.os,h.tape,h.output,h.size,fun k hk _=>h.block k hk⟩
theorem zeS {B:Nat} {v:Value} (h:Own w B v cs) (ho:zbn S w w') (hn:∀ b,v.ownBlock=some b->¬ S b):Own w' B v cs:=by
 obtain ⟨h1,h2⟩:=h
 refine ⟨h1,?_⟩
 rcases h2 with h2 | ⟨g,cp,cur,q1,q2,q3,q4⟩
 ·exact .inl h2
 ·exact .inr ⟨g,cp,cur,q1,q2,(ho.block g (gei q3).1 (hn g (by rw [q1]; rfl))).trans q3,q4⟩
theorem zba.offS {lo hi:Nat} {M:Nat} {n cp:Nat->Nat} (h:zba w lo hi a M ad n cp f) (ho:zbn S w w') (ha:∀ x,a=some x->¬ S x.block) (hr:∀ k x,k < M->ad k=some x->¬ S x.block):zba w' lo hi a M ad n cp f:=by
 rcases h with h | ⟨b,rfl,h⟩
 ·exact .inl h
 ·exact .inr ⟨b,rfl,h.out,fun k hk=>ho.cell (ha _ rfl) (h.cell k hk),fun k hk=>(h.row k hk).offN ho (fun x q=>hr k x hk q),h.lt,h.inj,Nat.le_trans h.top ho.size⟩
def za9 (a:Option Addr) (e:Nat):Prop:=∃ x,a=some x/\e=x.block
theorem zc4 {n c b:Nat} (h:(Value.slice a n c).ownBlock=some b):za9 a b:=by
 rcases a with _ | x
 ·exact absurd h (by simp [Value.ownBlock])
 ·simp only [Value.ownBlock,Option.some.injEq] at h
  exact ⟨x,rfl,h.symm⟩
structure zgc (sz:Nat) (ga la fa:Option Addr) (M:Nat) (ad:Nat->Option Addr):Prop where
 gl:∀ e,za9 ga e->¬ za9 la e
 gf:∀ e,za9 ga e->¬ za9 fa e
 gr:∀ e,za9 ga e->¬ zck M ad e
 lf:∀ e,za9 la e->¬ za9 fa e
 lr:∀ e,za9 la e->¬ zck M ad e
 lt:∀ e,za9 ga e\/za9 la e\/zck M ad e->e < sz
theorem zjf (wd k0 k1 k2 k3:Int) (cs:List (Int × Int)) (M B:Nat) (ga la fa:Option Addr) (gc lc fc lo hi:Nat) (ad:Nat->Option Addr) (n cp:Nat->Nat) (l:Nat->Int) (f:Nat->Nat->Int) (w:World) (e1:k1=k0 + 2 * (cs.length:Int)) (e2:k2=k1 + 1 * (M:Int)) (e3:k3=k2 + (zb1 n M:Int)) (hk0:0<=k0/\k0<=1000)
  (hg:Own w B (.slice ga cs.length gc) cs) (hl:RI w la (M * 1) l) (hf:zba w lo hi fa M ad n cp f) (hm:cs.length<=1000) (hM:M<=20) (hn:∀ k,k < M->n k<=1000) (hA:zgc w.heap.size ga la fa M ad) :
  Calls SqP.prog 21 #[.agg #[.int .i64 wd,.slice ga cs.length gc,.slice la M lc,.slice fa M fc],.int .i64 k0] w fun e w'=>e=.returned (.int .i64 k3)/\Own w' B (.slice ga cs.length gc) (marks k0 cs.length)/\RI w' la (M * 1) (fun j=>k1 + (j:Int))/\zba w' lo hi fa M ad n cp (fun k j=>k2 + (zb1 n k:Int) + (j:Int))/\zbn (fun e=>za9 ga e\/za9 la e\/zck M ad e) w w':=by
 obtain ⟨w2,hw2⟩:∃ w2,w2=w.alloc (.cells #[.int .i64 wd,.slice ga cs.length gc,.slice la M lc,.slice fa M fc] 32):=⟨_,rfl⟩
 have H2:Hid (zbO w w2 [(w.heap.size,.cells #[.int .i64 wd,.slice ga cs.length gc,.slice la M lc,.slice fa M fc] 32)]):=by
  rw [hw2]
  have h1:zbO w w []:=⟨Below.refl _ _,(fun _ h=>nomatch h),List.nodup_nil⟩
  exact h1.made _
 have hb2:=H2.out.below
 have hbox:∀ e,za9 ga e\/za9 la e\/zck M ad e->w.heap.size ≠ e:=fun e h q=>by have:=hA.lt e h; omega
 have hk1:0<=k1/\k1<=1099511627776:=by omega
 have hk2:0<=k2/\k2<=1000000:=by omega
 have hO2:Own w2 B (.slice ga cs.length gc) cs:=zeS (S:=fun _=>False) hg (zbn.of hb2) (fun _ _ h=>h)
 have hG:=(zes (aLt:=Sq.altP)) wd k0 B (.slice ga cs.length gc) cs w2 hO2 (by omega) (by omega)
 rw [<- e1] at hG
 have hL:=fun w=>(zet (aLt:=Sq.altP)) k1 la M lc l w
 rw [<- e2] at hL
 have hF:=fun w h=>(zje (aLt:=Sq.altP)) k2 hk2 fa fc M lo hi ad n cp f w h hM hn
 rw [<- e3] at hF
 have HL:Hid (RI w2 la (M * 1) l):=hl.below hb2
 have HF:Hid (zba w2 lo hi fa M ad n cp f):=hf.below hb2
 clear hg hl hf e1 e2 e3 hO2
 go_enter SqP.func21,Tryz.ntmps21
 go_upto_region 1 with fail
 rw [<- hw2]
 clear hw2
 have c0:w2.cell? ⟨w.heap.size,0,none⟩=some (.int .i64 wd):=(cell_of_row _ _ 0 _ _ _ (H2.out.lies (w.heap.size,.cells #[.int .i64 wd,.slice ga cs.length gc,.slice la M lc,.slice fa M fc] 32) (by simp)).1).trans rfl
 have c1:w2.cell? ⟨w.heap.size,1,none⟩=some (.slice ga cs.length gc):=(cell_of_row _ _ 1 _ _ _ (H2.out.lies (w.heap.size,.cells #[.int .i64 wd,.slice ga cs.length gc,.slice la M lc,.slice fa M fc] 32) (by simp)).1).trans rfl
 have c2:w2.cell? ⟨w.heap.size,2,none⟩=some (.slice la M lc):=(cell_of_row _ _ 2 _ _ _ (H2.out.lies (w.heap.size,.cells #[.int .i64 wd,.slice ga cs.length gc,.slice la M lc,.slice fa M fc] 32) (by simp)).1).trans rfl
 have c3:w2.cell? ⟨w.heap.size,3,none⟩=some (.slice fa M fc):=(cell_of_row _ _ 3 _ _ _ (H2.out.lies (w.heap.size,.cells #[.int .i64 wd,.slice ga cs.length gc,.slice la M lc,.slice fa M fc] 32) (by simp)).1).trans rfl
 have K2:Hid (w2.cell? ⟨w.heap.size,0,none⟩=some (.int .i64 wd)/\w2.cell? ⟨w.heap.size,1,none⟩=some (.slice ga cs.length gc)/\w2.cell? ⟨w.heap.size,2,none⟩=some (.slice la M lc)/\w2.cell? ⟨w.heap.size,3,none⟩=some (.slice fa M fc)):=⟨c0,c1,c2,c3⟩
 go_wp2_with fail
 refine hG.mono ?_
 rintro e w3 ⟨rfl,hO3,hg3⟩
 have o3:=(zbn.refl (za9 ga) w2).grown hg3 (fun b q=>zc4 q)
 have HO3:Hid (Own w3 B (.slice ga cs.length gc) (marks k0 cs.length)):=hO3
 have HL3:Hid (RI w3 la (M * 1) l):=HL.out.offN o3 (fun x q h=>hA.gl _ h ⟨x,q,rfl⟩)
 have HF3:Hid (zba w3 lo hi fa M ad n cp f):=HF.out.offS o3 (fun x q h=>hA.gf _ h ⟨x,q,rfl⟩) (fun k x hk q h=>hA.gr _ h ⟨k,x,hk,q,rfl⟩)
 have nb3:¬ za9 ga w.heap.size:=fun h=>hbox _ (.inl h) rfl
 have nb4:¬ za9 la w.heap.size:=fun h=>hbox _ (.inr (.inl h)) rfl
 clear hG hO3 hg3 c0 c1 c2 c3
 have c2:=o3.cell nb3 K2.out.2.2.1
 have c3:=o3.cell nb3 K2.out.2.2.2
 have O3:Hid (zbn (za9 ga) w2 w3):=o3
 clear o3
 go_wp2_with fail
 refine (hL w3 HL3.out (by omega) hk1).mono ?_
 rintro e w4 ⟨rfl,hR4,hg4⟩
 have o4:=(zbn.refl (za9 la) w3).grown hg4 (fun b q=>zc4 q)
 have HO4:Hid (Own w4 B (.slice ga cs.length gc) (marks k0 cs.length)):=zeS HO3.out o4 (fun b q h=>hA.gl b (zc4 q) h)
 have HL4:Hid (RI w4 la (M * 1) (fun j=>k1 + (j:Int))):=hR4
 have HF4:Hid (zba w4 lo hi fa M ad n cp f):=HF3.out.offS o4 (fun x q h=>hA.lf _ h ⟨x,q,rfl⟩) (fun k x hk q h=>hA.lr _ h ⟨k,x,hk,q,rfl⟩)
 have c3':=o4.cell nb4 c3
 have O4:Hid (zbn (za9 la) w3 w4):=o4
 clear o4 hR4 hg4 c2 c3
 go_wp2_with fail
 refine (hF w4 HF4.out).mono ?_
 rintro e w5 ⟨rfl,hR5,o5⟩
 have q1:=zeS HO4.out o5 (fun b q h=>hA.gr b (zc4 q) h)
 have q2:=HL4.out.offN o5 (fun x q h=>hA.lr _ ⟨x,q,rfl⟩ h)
 have q3:zbn (fun e=>za9 ga e\/za9 la e\/zck M ad e) w w5:=(((zbn.of hb2).trans (O3.out.imp fun _ h=>.inl h)).trans (O4.out.imp fun _ h=>.inr (.inl h))).trans (o5.imp fun _ h=>.inr (.inr h))
 clear o5 c3'
 go_wp2_with fail
 go_ret
 exact ⟨rfl,q1,q2,hR5,q3⟩
end Sp
end Go.Proofs.YtfbbcooklhmeaaaGreat
