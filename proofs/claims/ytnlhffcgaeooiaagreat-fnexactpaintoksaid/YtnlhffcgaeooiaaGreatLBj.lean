/- Part. -/
import Derived.Test.YtnlhffcgaeooiaaGreatLAz
import Derived.Test.YtnlhffcgaeooiaaGreatLBg
import Derived.Test.YtnlhffcgaeooiaaGreatLBh
set_option maxHeartbeats 400000
set_option linter.unusedVariables false
namespace Go.Proofs.YtnlhffcgaeooiaaGreat
variable{arrF arrL:Array Value}{r:Ending}{wd:Int}{cs:List (Int × Int)}{l:List (Nat × Obj)}{B M:Nat}{cp n:Nat->Nat}{f:Nat->Nat->Int}{ad:Nat->Option Addr}{xs:Nat->Value}{a:Option Addr}{v:Value}{w w' w0:World}
namespace Sp
variable{aLt:Nat->Func->Func}
open Go.RowKit
attribute [local go_sem ↓] Go.wp_at_zero Go.wp_at_succ
structure zov(w:World)(lo hi b M:Nat)(ad:Nat->Option Addr)(n cp:Nat->Nat)(f:Nat->Nat->Int):Prop where
 out:lo<=b/\b<hi
 cell:∀ k,k<M->w.cell? ⟨b,k,none⟩=some (.slice (ad k) (n k) (cp k))
 row:∀ k,k<M->RI w (ad k) (n k * 1) (f k)
 lt:∀ k x,k<M->ad k=some x->(lo<=x.block/\x.block<hi)/\¬ x.block=b
 inj:∀ k k' x x',k<M->k'<M->ad k=some x->ad k'=some x'->x.block=x'.block->k=k'
 top:hi<=w.heap.size
def zmc(w:World)(lo hi:Nat)(a:Option Addr)(M:Nat)(ad:Nat->Option Addr)(n cp:Nat->Nat)(f:Nat->Nat->Int):Prop:=M=0\/∃ b,a=some ⟨b,0,none⟩/\zov w lo hi b M ad n cp f
theorem zov.below{lo hi b:Nat}(h:zov w lo hi b M ad n cp f)(hb:Below w.heap.size w w'):zov w' lo hi b M ad n cp f :=
 ⟨h.out,fun k hk=>zab hb (h.cell k hk),fun k hk=>(h.row k hk).below hb,h.lt,h.inj,Nat.le_trans h.top hb.size⟩
theorem zmc.below{lo hi:Nat}(h:zmc w lo hi a M ad n cp f)(hb:Below w.heap.size w w'):zmc w' lo hi a M ad n cp f:=by
 rcases h with h|⟨b,e,h⟩
 ·exact .inl h
 ·exact .inr ⟨b,e,h.below hb⟩
def zgs(M:Nat)(ad:Nat->Option Addr)(e:Nat):Prop:=∃ k x,k<M/\ad k=some x/\e=x.block
end Sp
namespace Sp
open Go.RowKit
attribute [local go_sem ↓] Go.wp_at_zero Go.wp_at_succ
theorem zko(wd:Int)(a:Option Addr)(cap:Nat)(cs:List (Int × Int))(w:World):zeh w ((w.alloc (.cells #[.int .i64 wd,.slice a cs.length cap] 33)).alloc (.cells #[.int .i64 0,.slice none 0 0,.slice none 0 0,.slice none 0 0] 35)) [(w.heap.size+1,.cells #[.int .i64 0,.slice none 0 0,.slice none 0 0,.slice none 0 0] 35),(w.heap.size,.cells #[.int .i64 wd,.slice a cs.length cap] 33)]:=by
 have h1:zeh w w []:=⟨Below.refl _ _,(fun _ h=>nomatch h),List.nodup_nil⟩
 have h2:=(h1.made (.cells #[.int .i64 wd,.slice a cs.length cap] 33)).made (.cells #[.int .i64 0,.slice none 0 0,.slice none 0 0,.slice none 0 0] 35)
 have e:(w.alloc (.cells #[.int .i64 wd,.slice a cs.length cap] 33)).heap.size=w.heap.size+1:=Array.size_push _
 rw[e] at h2
 exact h2
theorem zeh.on{x x':World}(h:zeh w0 x l)(hb:Below x.heap.size x x'):zeh w0 x' l:=by
 have hz:=h.below.size
 refine⟨⟨hb.os.trans h.below.os,hb.tape.trans h.below.tape,hb.output.trans h.below.output,Nat.le_trans hz hb.size,fun k hk=>(hb.block k (by omega)).trans (h.below.block k hk)⟩,fun p hp=>?_,h.once⟩
 have q:=h.lies p hp
 exact⟨(hb.block p.1 (gei q.1).1).trans q.1,q.2⟩
theorem zfL(wd:Int)(a:Option Addr)(cap:Nat)(cs:List (Int × Int))(w:World)(h:zai w a cs)(hm:cs.length<=1048576)(hk:okG wd cs=false) :
  Calls SqP.prog 24 #[.agg #[.int .i64 wd,.slice a cs.length cap]] w fun e w'=>e=.returned (.tuple #[.agg #[.int .i64 0,.slice none 0 0,.slice none 0 0,.slice none 0 0],.bool false])/\Below w.heap.size w w':=by
 obtain⟨w2,hw2⟩:∃ w2,w2=(w.alloc (.cells #[.int .i64 wd,.slice a cs.length cap] 33)).alloc (.cells #[.int .i64 0,.slice none 0 0,.slice none 0 0,.slice none 0 0] 35):=⟨_,rfl⟩
 have hM:zeh w w2 [(w.heap.size+1,.cells #[.int .i64 0,.slice none 0 0,.slice none 0 0,.slice none 0 0] 35),(w.heap.size,.cells #[.int .i64 wd,.slice a cs.length cap] 33)]:=by rw[hw2];exact zko wd a cap cs w
 have hG:=(zbB (aLt:=Sq.altP)) wd a cap cs w2 (h.below hM.below) (by omega)
 rw[hk] at hG
 have c0:w2.cell? ⟨w.heap.size,0,none⟩=some (.int .i64 wd):=(cell_of_row _ _ 0 _ _ _ (hM.lies (w.heap.size,.cells #[.int .i64 wd,.slice a cs.length cap] 33) (by simp)).1).trans rfl
 have c1:w2.cell? ⟨w.heap.size,1,none⟩=some (.slice a cs.length cap):=(cell_of_row _ _ 1 _ _ _ (hM.lies (w.heap.size,.cells #[.int .i64 wd,.slice a cs.length cap] 33) (by simp)).1).trans rfl
 have HM:Hid (zeh w w2 [(w.heap.size+1,.cells #[.int .i64 0,.slice none 0 0,.slice none 0 0,.slice none 0 0] 35),(w.heap.size,.cells #[.int .i64 wd,.slice a cs.length cap] 33)]):=hM
 clear hM
 go_enter SqP.func24,Tryz.ntmps24
 go_upto_region 1 with fail
 rw[<- hw2]
 clear hw2
 go_wp2_with fail
 refine hG.mono ?_
 rintro e w3 ⟨rfl,hb3⟩
 have h3:zeh w w3 [(w.heap.size+1,.cells #[.int .i64 0,.slice none 0 0,.slice none 0 0,.slice none 0 0] 35),(w.heap.size,.cells #[.int .i64 wd,.slice a cs.length cap] 33)]:=HM.out.on hb3
 clear hG hb3 c0 c1
 have hrv:w3.heap[w.heap.size+1]?=some (.cells #[.int .i64 0,.slice none 0 0,.slice none 0 0,.slice none 0 0] 35):=(h3.lies (w.heap.size+1,.cells #[.int .i64 0,.slice none 0 0,.slice none 0 0,.slice none 0 0] 35) (by simp)).1
 have f0:=frozen_of_row _ _ 0 _ _ hrv
 have f1:=frozen_of_row _ _ 1 _ _ hrv
 have f2:=frozen_of_row _ _ 2 _ _ hrv
 have f3:=frozen_of_row _ _ 3 _ _ hrv
 have g0:w3.cell? ⟨w.heap.size+1,0,none⟩=some (.int .i64 0):=(cell_of_row _ _ 0 _ _ _ hrv).trans rfl
 have g1:w3.cell? ⟨w.heap.size+1,1,none⟩=some (.slice none 0 0):=(cell_of_row _ _ 1 _ _ _ hrv).trans rfl
 have g2:w3.cell? ⟨w.heap.size+1,2,none⟩=some (.slice none 0 0):=(cell_of_row _ _ 2 _ _ _ hrv).trans rfl
 have g3:w3.cell? ⟨w.heap.size+1,3,none⟩=some (.slice none 0 0):=(cell_of_row _ _ 3 _ _ _ hrv).trans rfl
 have HR:Hid (w3.heap[w.heap.size+1]?=some (.cells #[.int .i64 0,.slice none 0 0,.slice none 0 0,.slice none 0 0] 35)):=hrv
 have hB3:Hid (Below w.heap.size w w3):=h3.below
 clear hrv HM h3
 go_wp2_with fail
 rw[zbn HR.out (i:=0) (v:=.int .i64 0) rfl,zbn HR.out (i:=1) (v:=.slice none 0 0) rfl,zbn HR.out (i:=2) (v:=.slice none 0 0) rfl,zbn HR.out (i:=3) (v:=.slice none 0 0) rfl]
 refine bodyPost_ret (v:=.tuple #[.agg #[.int .i64 0,.slice none 0 0,.slice none 0 0,.slice none 0 0],.bool false]) (by simp[results,go_sem,g0,g1,g2,g3]) rfl ⟨rfl,hB3.out⟩
theorem zeQ{W H:Nat}(S:Siz wd cs W H)(a:Option Addr)(cap:Nat)(w:World)(h:zai w a cs) :
  Calls SqP.prog 24 #[.agg #[.int .i64 wd,.slice a cs.length cap]] w fun e w'=>∃ gc c bl bf arrL arrF xs,e=.returned (.tuple #[.agg #[.int .i64 wd,.slice (some ⟨gc,0,none⟩) cs.length c,.slice (some ⟨bl,0,none⟩) (2 * (W+H)) (2 * (W+H)),.slice (some ⟨bf,0,none⟩) (2 * (W+H)) (2 * (W+H))],.bool true])/\ScS w w' wd cs (2 * (W+H)) gc c bl bf (2 * (W+H)) arrL arrF xs:=by
 have hn:cs.length<=25:=by rw[S.el];exact Nat.le_trans (Nat.mul_le_mul S.hW.2 S.hH.2) (by omega)
 have hp:0<cs.length:=by rw[S.el];exact Nat.mul_pos (by have:=S.hW;omega) (by have:=S.hH;omega)
 have hk:=S.ok
 obtain⟨M,hMW⟩:∃ M,M=2 * (W+H):=⟨_,rfl⟩
 have hM20:M<=20:=by have:=S.hW;have:=S.hH;omega
 have hmany:∀ w:World,Calls SqP.prog 46 #[.agg #[.int .i64 wd,.slice a cs.length cap]] w fun e w'=>e=.returned (.int .i64 (M:Int))/\Below w.heap.size w w':=by
  intro w
  have e1:(2 * ((W:Int)+(H:Int)))=(M:Int):=by omega
  rw[<- e1,S.ew]
  exact zgF W H a cs.length cap w S.hW S.hH.2 (by omega) (by rw[S.el,Nat.mul_div_cancel_left _ (by have:=S.hW;omega)])
 have HH:Hid (zai w a cs):=h
 have SS:Hid (Siz wd cs W H):=S
 rw[<- hMW]
 have HMW:Hid (M=2 * (W+H)):=hMW
 clear hMW
 obtain⟨w2,hw2⟩:∃ w2,w2=(w.alloc (.cells #[.int .i64 wd,.slice a cs.length cap] 33)).alloc (.cells #[.int .i64 0,.slice none 0 0,.slice none 0 0,.slice none 0 0] 35):=⟨_,rfl⟩
 have hM:zeh w w2 [(w.heap.size+1,.cells #[.int .i64 0,.slice none 0 0,.slice none 0 0,.slice none 0 0] 35),(w.heap.size,.cells #[.int .i64 wd,.slice a cs.length cap] 33)]:=by rw[hw2];exact zko wd a cap cs w
 have hG:=(zbB (aLt:=Sq.altP)) wd a cap cs w2 (h.below hM.below) (by omega)
 rw[hk] at hG
 have c0:w2.cell? ⟨w.heap.size,0,none⟩=some (.int .i64 wd):=(cell_of_row _ _ 0 _ _ _ (hM.lies (w.heap.size,.cells #[.int .i64 wd,.slice a cs.length cap] 33) (by simp)).1).trans rfl
 have c1:w2.cell? ⟨w.heap.size,1,none⟩=some (.slice a cs.length cap):=(cell_of_row _ _ 1 _ _ _ (hM.lies (w.heap.size,.cells #[.int .i64 wd,.slice a cs.length cap] 33) (by simp)).1).trans rfl
 have HM:Hid (zeh w w2 [(w.heap.size+1,.cells #[.int .i64 0,.slice none 0 0,.slice none 0 0,.slice none 0 0] 35),(w.heap.size,.cells #[.int .i64 wd,.slice a cs.length cap] 33)]):=hM
 clear hM
 go_enter SqP.func24,Tryz.ntmps24
 go_upto_region 1 with fail
 rw[<- hw2]
 clear hw2
 go_wp2_with fail
 refine hG.mono ?_
 rintro e w3 ⟨rfl,hb3⟩
 have h3:zeh w w3 [(w.heap.size+1,.cells #[.int .i64 0,.slice none 0 0,.slice none 0 0,.slice none 0 0] 35),(w.heap.size,.cells #[.int .i64 wd,.slice a cs.length cap] 33)]:=HM.out.on hb3
 clear hG hb3 c0 c1
 clear S h hk HM
 have c0:w3.cell? ⟨w.heap.size,0,none⟩=some (.int .i64 wd):=(cell_of_row _ _ 0 _ _ _ (h3.lies (w.heap.size,.cells #[.int .i64 wd,.slice a cs.length cap] 33) (by simp)).1).trans rfl
 have c1:w3.cell? ⟨w.heap.size,1,none⟩=some (.slice a cs.length cap):=(cell_of_row _ _ 1 _ _ _ (h3.lies (w.heap.size,.cells #[.int .i64 wd,.slice a cs.length cap] 33) (by simp)).1).trans rfl
 have H3:Hid (zeh w w3 [(w.heap.size+1,.cells #[.int .i64 0,.slice none 0 0,.slice none 0 0,.slice none 0 0] 35),(w.heap.size,.cells #[.int .i64 wd,.slice a cs.length cap] 33)]):=h3
 clear h3
 go_wp2_with fail
 refine(hmany _).mono ?_
 rintro e w4 ⟨rfl,hb4⟩
 have h4:zeh w w4 [(w.heap.size+1,.cells #[.int .i64 0,.slice none 0 0,.slice none 0 0,.slice none 0 0] 35),(w.heap.size,.cells #[.int .i64 wd,.slice a cs.length cap] 33)]:=H3.out.on hb4
 clear hmany hb4 c0 c1 H3
 go_upto_region 4 with fail
 rename_i Q' K hK
 refine zsq w w4 a cap M (w.heap.size) (w.heap.size+1) hM20 hp h4 (fun _ _ d _ _ h=>by cases d <;> exact h) (fun y hy=>?_) _ _ _ _ _ _ _ _ _ _ _ _ _ _ _ _ _ _ _ _ _ _ _ _ _ _ (fun x gc c cur bl bf b5 hown hx=>?_)
 ·obtain h0|⟨b,off,rfl,hbl,hcell⟩:=HH.out.below hy
  ·rw[h0] at hp
   exact absurd hp (by simp)
  ·exact zlc wd b off cap cs y hbl hcell (by omega) hp
 refine hK _ _ ?_
 obtain⟨x9,h9⟩:∃ x9,x9=((((x.setCell ⟨b5,0,none⟩ (.int .i64 wd)).setCell ⟨b5,1,none⟩ (.slice (some ⟨gc,0,none⟩) cs.length c)).setCell ⟨b5,2,none⟩ (.slice (some ⟨bl,0,none⟩) M M)).setCell ⟨b5,3,none⟩ (.slice (some ⟨bf,0,none⟩) M M)):=⟨_,rfl⟩
 rw[<- h9]
 have n:=hx.once
 simp only[List.cons_append,List.nil_append,List.map_cons,List.map_nil,List.nodup_cons,List.mem_cons,List.not_mem_nil,or_false,not_or] at n
 have l5:=hx.lies (b5,.cells #[.int .i64 0,.slice none 0 0,.slice none 0 0,.slice none 0 0] 35) (by simp)
 have lf:=hx.lies (bf,.cells (madeCells #[.slice none 0 0] M) 25) (by simp)
 have ll:=hx.lies (bl,.cells (madeCells #[.int .i64 0] M) 3) (by simp)
 have lg:=hx.lies (gc,.cells cur 89) (by simp)
 have lr:=hx.lies (w.heap.size+1,.cells #[.int .i64 0,.slice none 0 0,.slice none 0 0,.slice none 0 0] 35) (by simp)
 dsimp only at l5 lf ll lg lr
 have r1:=heap_setCell_same _ _ 0 _ _ (.int .i64 wd) l5.1
 have r2:=heap_setCell_same _ _ 1 _ _ (.slice (some ⟨gc,0,none⟩) cs.length c) r1
 have r3:=heap_setCell_same _ _ 2 _ _ (.slice (some ⟨bl,0,none⟩) M M) r2
 have r4:=heap_setCell_same _ _ 3 _ _ (.slice (some ⟨bf,0,none⟩) M M) r3
 rw[<- h9] at r4
 simp only[List.setIfInBounds_toArray,List.set_cons_zero,List.set_cons_succ] at r4
 have o4:∀ b,b≠b5->x9.heap[b]?=x.heap[b]?:=fun b q=>by
  rw[h9,heap_setCell_other _ _ _ _ q,heap_setCell_other _ _ _ _ q,heap_setCell_other _ _ _ _ q,heap_setCell_other _ _ _ _ q]
 have hB9:Below w.heap.size w x9:=by
  rw[h9]
  exact(((hx.below.setCell (p:=⟨b5,0,none⟩) l5.2 _).setCell (p:=⟨b5,1,none⟩) l5.2 _).setCell (p:=⟨b5,2,none⟩) l5.2 _).setCell (p:=⟨b5,3,none⟩) l5.2 _
 have hS0:ScS w x9 wd cs M gc c bl bf 0 (madeCells #[.int .i64 0] M) (madeCells #[.slice none 0 0] M) (fun _=>.slice none 0 0) :=
  ⟨hB9,hown x9 _ lg.2 ((o4 gc (by omega)).trans lg.1),(o4 bl (by omega)).trans ll.1,(o4 bf (by omega)).trans lf.1,by simp[madeCells],by simp[madeCells],(fun j hj=>absurd hj (by omega)),(fun j hj=>absurd hj (by omega)),⟨⟨lg.2,ll.2,lf.2⟩,by omega⟩,(fun j hj=>absurd hj (by omega)),(fun j hj=>absurd hj (by omega)),(fun j _ _ hj=>absurd hj (by omega))⟩
 have hgo:=znP SS.out w x9 M gc c bl bf b5 (w.heap.size+1) HMW.out hS0 r4 ((o4 _ (by omega)).trans lr.1) ⟨⟨l5.2,lr.2⟩,by omega⟩ (Post:=fun e w'=>∃ gc c bl bf arrL arrF xs,e=.returned (.tuple #[.agg #[.int .i64 wd,.slice (some ⟨gc,0,none⟩) cs.length c,.slice (some ⟨bl,0,none⟩) M M,.slice (some ⟨bf,0,none⟩) M M],.bool true])/\ScS w w' wd cs M gc c bl bf M arrL arrF xs) (fun w' arrL arrF xs hS=>⟨gc,c,bl,bf,arrL,arrF,xs,rfl,hS⟩)
 exact hgo _ _ _ _ _ _ _ _ _ _ _ _ _ _ _ _ _ _ _ _ _ _ _ _ _ _
def zdm(a:Option Addr)(e:Nat):Prop:=∃ x,a=some x/\e=x.block
structure zrh(sz:Nat)(ga la fa:Option Addr)(M:Nat)(ad:Nat->Option Addr):Prop where
 gl:∀ e,zdm ga e->¬ zdm la e
 gf:∀ e,zdm ga e->¬ zdm fa e
 gr:∀ e,zdm ga e->¬ zgs M ad e
 lf:∀ e,zdm la e->¬ zdm fa e
 lr:∀ e,zdm la e->¬ zgs M ad e
 lt:∀ e,zdm ga e\/zdm la e\/zgs M ad e->e<sz
end Sp
namespace Sp
open Go.RowKit
theorem zir{xs:List Int}(h:zdy w B 3 v xs):zdx w B v xs:=by
 refine⟨by simp[zb2],?_⟩
 rcases h with ⟨h1,h2⟩|⟨g,cap,h1,h2,h3,h4,h5,h6⟩
 ·exact .inl ⟨h1,by rw[h2];rfl⟩
 ·refine .inr ⟨g,cap,zgh xs cap,h1,h2,h6,h4,h5,by rw[zgg xs cap h4,Nat.mul_one],?_⟩
  rw[Nat.mul_one]
  have e:(zgh xs cap).toList=zb2 xs++List.replicate (cap - xs.length) (.int .i64 0):=by simp[zgh,zdV,zb2]
  rw[e,List.take_append_of_le_length (by simp[zb2])]
  rw[List.take_of_length_le (by simp[zb2])]
theorem znA{xs:List Int}(h:zdx w B v xs):∃ a c,v=.slice a xs.length c/\RI w a (xs.length * 1) (fun i=>xs.getD i 0)/\∀ x,a=some x->v.ownBlock=some x.block:=by
 obtain⟨h1,h2⟩:=h
 rcases h2 with ⟨q1,q2⟩|⟨g,cap,cur,q1,q2,q3,q4,q5,q6,q7⟩
 ·exact⟨none,0,by rw[q1,q2],.inl (by omega),fun x e=>by cases e⟩
 ·refine⟨_,cap,q1,.inr ⟨g,rfl,(gei q3).1,fun j hj=>⟨?_,frozen_of_row _ _ j _ _ q3⟩⟩,fun x e=>by rw[q1];cases e;rfl⟩
  have hj':j<xs.length:=by omega
  have e:(cur.toList.take (xs.length * 1))[j]?=(zb2 xs)[j]?:=by rw[q7]
  rw[List.getElem?_take_of_lt hj,Array.getElem?_toList] at e
  rw[cell_of_row _ _ j _ _ _ q3,e]
  simp[zb2,hj']
theorem ScA.toS{gc bl bf k:Nat}(h:ScA w0 w wd cs M gc bl bf k arrL arrF xs):ScS w0 w wd cs M gc cs.length bl bf k arrL arrF xs:=by
 have hlt:=h.lt
 exact⟨h.below,h.grid,h.lights,h.feet,h.sizeL,h.sizeF,h.atL,h.atF,by omega,fun j hj=>zir (h.row j hj),fun j hj b hb=>by have:=h.apart j hj b hb;omega,h.once⟩
def zre:Value->Option Addr
 | .slice a _ _=>a
 | _=>none
def zrg(w:World)(wd:Int)(cs:List (Int × Int))(M:Nat)(l:Nat->Int)(n:Nat->Nat)(f:Nat->Nat->Int)(ok:Bool)(r:Ending)(w':World):Prop :=
 ∃ ga la fa gc lc fc ad cp,r=.returned (.tuple #[.agg #[.int .i64 wd,.slice ga cs.length gc,.slice la M lc,.slice fa M fc],.bool ok])/\Own w' w.heap.size (.slice ga cs.length gc) cs/\RI w' la (M * 1) l/\zmc w' w.heap.size w'.heap.size fa M ad n cp f/\zrh w'.heap.size ga la fa M ad/\(∀ e,zdm ga e\/zdm la e\/zdm fa e\/zgs M ad e->w.heap.size<=e)/\Below w.heap.size w w'
theorem zaP{b e:Nat}(h:zdm (some ⟨b,0,none⟩) e):e=b:=by
 obtain⟨x,h1,h2⟩:=h
 cases h1
 exact h2
theorem zqa{l:Nat->Int}(hr:r=.returned (.tuple #[.agg #[.int .i64 0,.slice none 0 0,.slice none 0 0,.slice none 0 0],.bool false]))(hb:Below w.heap.size w w'):zrg w 0 [] 0 l n f false r w':=by
 have h0:∀ e,¬ zdm none e:=fun e ⟨x,h,_⟩=>by cases h
 have h1:∀ e,¬ zgs 0 (fun _=>none) e:=fun e ⟨k,x,h,_⟩=>by omega
 exact⟨none,none,none,0,0,0,fun _=>none,fun _=>0,hr,⟨rfl,.inl ⟨rfl,rfl⟩⟩,.inl rfl,.inl rfl,⟨fun e h=>absurd h (h0 e),fun e h=>absurd h (h0 e),fun e h=>absurd h (h0 e),fun e h=>absurd h (h0 e),fun e h=>absurd h (h0 e),fun e h=>by rcases h with h|h|h;exact absurd h (h0 e);exact absurd h (h0 e);exact absurd h (h1 e)⟩,fun e h=>by rcases h with h|h|h|h;exact absurd h (h0 e);exact absurd h (h0 e);exact absurd h (h0 e);exact absurd h (h1 e),hb⟩
theorem zmf{gc c bl bf:Nat}(h:ScS w w' wd cs M gc c bl bf M arrL arrF xs)(hr:r=.returned (.tuple #[.agg #[.int .i64 wd,.slice (some ⟨gc,0,none⟩) cs.length c,.slice (some ⟨bl,0,none⟩) M M,.slice (some ⟨bf,0,none⟩) M M],.bool true])) :
  zrg w wd cs M (fun j=>zbd wd cs (j:Int)) (fun j=>(za2 wd cs (j:Int)).length) (fun j i=>(za2 wd cs (j:Int)).getD i 0) true r w':=by
 have hx:∀ j,j<M->xs j=.slice (zre (xs j)) (za2 wd cs (j:Int)).length (zbJ (xs j))/\RI w' (zre (xs j)) ((za2 wd cs (j:Int)).length * 1) (fun i=>(za2 wd cs (j:Int)).getD i 0)/\∀ x,zre (xs j)=some x->(xs j).ownBlock=some x.block:=fun j hj=>by
  obtain⟨a,c,h1,h2,h3⟩:=znA (h.row j hj)
  rw[h1] at h3 ⊢
  exact⟨rfl,h2,h3⟩
 have hblk:∀ j x,j<M->zre (xs j)=some x->(w.heap.size<=x.block/\x.block<w'.heap.size)/\(x.block≠gc/\x.block≠bl/\x.block≠bf):=fun j x hj q=>⟨World.ownsRow.lt (h.row j hj) x.block ((hx j hj).2.2 x q),h.apart j hj x.block ((hx j hj).2.2 x q)⟩
 have hrow:∀ e,zgs M (fun j=>zre (xs j)) e->(w.heap.size<=e/\e<w'.heap.size)/\(e≠gc/\e≠bl/\e≠bf):=fun e ⟨k,x,q1,q2,q3⟩=>by rw[q3];exact hblk k x q1 q2
 have hlt:=h.lt
 have hgl:=(World.ownsRow.lt h.grid gc rfl).2
 have hbl:=(gei h.lights).1
 have hbf:=(gei h.feet).1
 refine⟨some ⟨gc,0,none⟩,some ⟨bl,0,none⟩,some ⟨bf,0,none⟩,c,M,M,fun j=>zre (xs j),fun j=>zbJ (xs j),hr,h.grid,.inr ⟨bl,rfl,hbl,fun j hj=>⟨?_,frozen_of_row _ _ j _ _ h.lights⟩⟩,.inr ⟨bf,rfl,⟨hlt.1.2.2,hbf⟩,fun k hk=>?_,fun k hk=>(hx k hk).2.1,fun k x hk q=>⟨(hblk k x hk q).1,(hblk k x hk q).2.2.2⟩,fun k k' x x' hk hk' q q' e=>?_,Nat.le_refl _⟩,⟨?_,?_,?_,?_,?_,?_⟩,?_,h.below⟩
 ·rw[cell_of_row _ _ j _ _ _ h.lights,h.atL j (by omega)]
 ·rw[cell_of_row _ _ k _ _ _ h.feet,h.atF k hk]
  exact congrArg some (hx k hk).1
 ·have q1:=(hx k hk).2.2 x q
  have q2:=(hx k' hk').2.2 x' q'
  rw[<- e] at q2
  exact h.inj k k' x.block hk hk' q1 q2
 ·intro e q q'
  have:=zaP q;have:=zaP q';omega
 ·intro e q q'
  have:=zaP q;have:=zaP q';omega
 ·intro e q q'
  have:=zaP q;have:=(hrow e q').2.1;omega
 ·intro e q q'
  have:=zaP q;have:=zaP q';omega
 ·intro e q q'
  have:=zaP q;have:=(hrow e q').2.2.1;omega
 ·rintro e (q|q|q)
  ·have:=zaP q;omega
  ·have:=zaP q;omega
  ·exact(hrow e q).1.2
 ·rintro e (q|q|q|q)
  ·have:=zaP q;omega
  ·have:=zaP q;omega
  ·have:=zaP q;omega
  ·exact(hrow e q).1.1
theorem zq0(wd:Int)(cs:List (Int × Int))(hm:cs.length<=1048576):∃ (wd':Int) (cs':List (Int × Int)) (M:Nat) (l:Nat->Int) (n:Nat->Nat) (f:Nat->Nat->Int) (ok:Bool),cs'.length<=25/\M<=20/\(∀ k,k<M->n k<=1000)/\(ok=false->wd'=0/\cs'=[]/\M=0) /\
  (∀(a:Option Addr) (cap:Nat) (w:World),zai w a cs->Calls SqP.prog 29 #[.agg #[.int .i64 wd,.slice a cs.length cap]] w (zrg w wd' cs' M l n f ok)) /\
  (∀(a:Option Addr) (cap:Nat) (w:World),zai w a cs->Calls SqP.prog 24 #[.agg #[.int .i64 wd,.slice a cs.length cap]] w (zrg w wd' cs' M l n f ok)):=by
 rcases hk:okG wd cs with _|_
 ·exact⟨0,[],0,fun _=>0,fun _=>0,fun _ _=>0,false,by simp,by omega,(fun k h=>by omega),(fun _=>⟨rfl,rfl,rfl⟩),(fun a cap w h=>(zkF wd a cap cs w h (by omega) hk).mono fun e w' q=>zqa q.1 q.2),(fun a cap w h=>(zfL wd a cap cs w h hm hk).mono fun e w' q=>zqa q.1 q.2)⟩
 ·obtain⟨W,H,S⟩:=zeE hk
  have hn:cs.length<=25:=by rw[S.el];exact Nat.le_trans (Nat.mul_le_mul S.hW.2 S.hH.2) (by omega)
  have hp:0<cs.length:=by rw[S.el];exact Nat.mul_pos (by have:=S.hW;omega) (by have:=S.hH;omega)
  have hM20:2 * (W+H)<=20:=by have:=S.hW;have:=S.hH;omega
  exact⟨wd,cs,2 * (W+H),_,_,_,true,hn,hM20,(fun k _=>Nat.le_trans (zjk _ _) (by omega)),(fun h=>by cases h),(fun a cap w h=>(znI wd a cap cs w h hn hp hk (2 * (W+H)) (by rw[S.em];omega) hM20).mono fun e w' ⟨gc,bl,bf,arrL,arrF,xs,q1,q2⟩=>zmf q2.toS q1),(fun a cap w h=>(zeQ S a cap w h).mono fun e w' ⟨gc,c,bl,bf,arrL,arrF,xs,q1,q2⟩=>zmf q2 q1)⟩
