/- Of the proof: PFt -/
import Derived.Test.YtfbbcooklhmeaaaGreatLBi
import Derived.Test.YtfbbcooklhmeaaaGreatLBj
set_option maxHeartbeats 400000
set_option linter.unusedVariables false
namespace Go.Proofs.YtfbbcooklhmeaaaGreat
variable {cs:List (Int × Int)} {l:List (Nat × Obj)}
namespace Sp
open Go.RowKit
attribute [local go_sem ↓] Go.wp_at_zero Go.wp_at_succ
theorem zj7 (wd:Int) (a:Option Addr) (cap:Nat) (cs:List (Int × Int)) (w:World):zbO w ((w.alloc (.cells #[.int .i64 wd,.slice a cs.length cap] 28)).alloc (.cells #[.int .i64 0,.slice none 0 0,.slice none 0 0,.slice none 0 0] 32)) [(w.heap.size + 1,.cells #[.int .i64 0,.slice none 0 0,.slice none 0 0,.slice none 0 0] 32),(w.heap.size,.cells #[.int .i64 wd,.slice a cs.length cap] 28)]:=by
 have h1:zbO w w []:=⟨Below.refl _ _,(fun _ h=>nomatch h),List.nodup_nil⟩
 have h2:=(h1.made (.cells #[.int .i64 wd,.slice a cs.length cap] 28)).made (.cells #[.int .i64 0,.slice none 0 0,.slice none 0 0,.slice none 0 0] 32)
 have e:(w.alloc (.cells #[.int .i64 wd,.slice a cs.length cap] 28)).heap.size=w.heap.size + 1:=Array.size_push _
 rw [e] at h2
 exact h2
theorem zbO.on {w0 x x':World} (h:zbO w0 x l) (hb:Below x.heap.size x x'):zbO w0 x' l:=by
 have hz:=h.below.size
 refine ⟨⟨hb.os.trans h.below.os,hb.tape.trans h.below.tape,hb.output.trans h.below.output,Nat.le_trans hz hb.size,fun k hk=>(hb.block k (by omega)).trans (h.below.block k hk)⟩,fun p hp=>?_,h.once⟩
 have q:=h.lies p hp
 exact ⟨(hb.block p.1 (gei q.1).1).trans q.1,q.2⟩
theorem zfz (wd:Int) (a:Option Addr) (cap:Nat) (cs:List (Int × Int)) (w:World) (h:zai w a cs) (hm:cs.length<=1048576) (hk:okG wd cs=false) :
  Calls SqP.prog 14 #[.agg #[.int .i64 wd,.slice a cs.length cap]] w fun e w'=>e=.returned (.tuple #[.agg #[.int .i64 0,.slice none 0 0,.slice none 0 0,.slice none 0 0],.bool false])/\Below w.heap.size w w':=by
 obtain ⟨w2,hw2⟩:∃ w2,w2=(w.alloc (.cells #[.int .i64 wd,.slice a cs.length cap] 28)).alloc (.cells #[.int .i64 0,.slice none 0 0,.slice none 0 0,.slice none 0 0] 32):=⟨_,rfl⟩
 have hM:zbO w w2 [(w.heap.size + 1,.cells #[.int .i64 0,.slice none 0 0,.slice none 0 0,.slice none 0 0] 32),(w.heap.size,.cells #[.int .i64 wd,.slice a cs.length cap] 28)]:=by rw [hw2]; exact zj7 wd a cap cs w
 have hG:=(zbB (aLt:=Sq.altP)) wd a cap cs w2 (h.below hM.below) (by omega)
 rw [hk] at hG
 have c0:w2.cell? ⟨w.heap.size,0,none⟩=some (.int .i64 wd):=(cell_of_row _ _ 0 _ _ _ (hM.lies (w.heap.size,.cells #[.int .i64 wd,.slice a cs.length cap] 28) (by simp)).1).trans rfl
 have c1:w2.cell? ⟨w.heap.size,1,none⟩=some (.slice a cs.length cap):=(cell_of_row _ _ 1 _ _ _ (hM.lies (w.heap.size,.cells #[.int .i64 wd,.slice a cs.length cap] 28) (by simp)).1).trans rfl
 have HM:Hid (zbO w w2 [(w.heap.size + 1,.cells #[.int .i64 0,.slice none 0 0,.slice none 0 0,.slice none 0 0] 32),(w.heap.size,.cells #[.int .i64 wd,.slice a cs.length cap] 28)]):=hM
 clear hM
 go_enter SqP.func14,Tryz.ntmps14
 go_upto_region 1 with fail
 rw [<- hw2]
 clear hw2
 go_wp2_with fail
 refine hG.mono ?_
 rintro e w3 ⟨rfl,hb3⟩
 have h3:zbO w w3 [(w.heap.size + 1,.cells #[.int .i64 0,.slice none 0 0,.slice none 0 0,.slice none 0 0] 32),(w.heap.size,.cells #[.int .i64 wd,.slice a cs.length cap] 28)]:=HM.out.on hb3
 clear hG hb3 c0 c1
 have hrv:w3.heap[w.heap.size + 1]?=some (.cells #[.int .i64 0,.slice none 0 0,.slice none 0 0,.slice none 0 0] 32):=(h3.lies (w.heap.size + 1,.cells #[.int .i64 0,.slice none 0 0,.slice none 0 0,.slice none 0 0] 32) (by simp)).1
 have f0:=frozen_of_row _ _ 0 _ _ hrv
 have f1:=frozen_of_row _ _ 1 _ _ hrv
 have f2:=frozen_of_row _ _ 2 _ _ hrv
 have f3:=frozen_of_row _ _ 3 _ _ hrv
 have g0:w3.cell? ⟨w.heap.size + 1,0,none⟩=some (.int .i64 0):=(cell_of_row _ _ 0 _ _ _ hrv).trans rfl
 have g1:w3.cell? ⟨w.heap.size + 1,1,none⟩=some (.slice none 0 0):=(cell_of_row _ _ 1 _ _ _ hrv).trans rfl
 have g2:w3.cell? ⟨w.heap.size + 1,2,none⟩=some (.slice none 0 0):=(cell_of_row _ _ 2 _ _ _ hrv).trans rfl
 have g3:w3.cell? ⟨w.heap.size + 1,3,none⟩=some (.slice none 0 0):=(cell_of_row _ _ 3 _ _ _ hrv).trans rfl
 have HR:Hid (w3.heap[w.heap.size + 1]?=some (.cells #[.int .i64 0,.slice none 0 0,.slice none 0 0,.slice none 0 0] 32)):=hrv
 have hB3:Hid (Below w.heap.size w w3):=h3.below
 clear hrv HM h3
 go_wp2_with fail
 rw [zbl HR.out (i:=0) (v:=.int .i64 0) rfl,zbl HR.out (i:=1) (v:=.slice none 0 0) rfl,zbl HR.out (i:=2) (v:=.slice none 0 0) rfl,zbl HR.out (i:=3) (v:=.slice none 0 0) rfl]
 refine bodyPost_ret (v:=.tuple #[.agg #[.int .i64 0,.slice none 0 0,.slice none 0 0,.slice none 0 0],.bool false]) (by simp [results,go_sem,g0,g1,g2,g3]) rfl ⟨rfl,hB3.out⟩
theorem zeH {wd:Int} {W H:Nat} (S:Siz wd cs W H) (a:Option Addr) (cap:Nat) (w:World) (h:zai w a cs) :
  Calls SqP.prog 14 #[.agg #[.int .i64 wd,.slice a cs.length cap]] w fun e w'=>∃ gc c bl bf arrL arrF xs,e=.returned (.tuple #[.agg #[.int .i64 wd,.slice (some ⟨gc,0,none⟩) cs.length c,.slice (some ⟨bl,0,none⟩) (2 * (W + H)) (2 * (W + H)),.slice (some ⟨bf,0,none⟩) (2 * (W + H)) (2 * (W + H))],.bool true])/\ScS w w' wd cs (2 * (W + H)) gc c bl bf (2 * (W + H)) arrL arrF xs:=by
 have hn:cs.length<=25:=by rw [S.el]; exact Nat.le_trans (Nat.mul_le_mul S.hW.2 S.hH.2) (by omega)
 have hp:0 < cs.length:=by rw [S.el]; exact Nat.mul_pos (by have:=S.hW; omega) (by have:=S.hH; omega)
 have hk:=S.ok
 obtain ⟨M,hMW⟩:∃ M,M=2 * (W + H):=⟨_,rfl⟩
 have hM20:M<=20:=by have:=S.hW; have:=S.hH; omega
 have hmany:∀ w:World,Calls SqP.prog 26 #[.agg #[.int .i64 wd,.slice a cs.length cap]] w fun e w'=>e=.returned (.int .i64 (M:Int))/\Below w.heap.size w w':=by
  intro w
  have e1:(2 * ((W:Int) + (H:Int)))=(M:Int):=by omega
  rw [<- e1,S.ew]
  exact zgq W H a cs.length cap w S.hW S.hH.2 (by omega) (by rw [S.el,Nat.mul_div_cancel_left _ (by have:=S.hW; omega)])
 have HH:Hid (zai w a cs):=h
 have SS:Hid (Siz wd cs W H):=S
 rw [<- hMW]
 have HMW:Hid (M=2 * (W + H)):=hMW
 clear hMW
 obtain ⟨w2,hw2⟩:∃ w2,w2=(w.alloc (.cells #[.int .i64 wd,.slice a cs.length cap] 28)).alloc (.cells #[.int .i64 0,.slice none 0 0,.slice none 0 0,.slice none 0 0] 32):=⟨_,rfl⟩
 have hM:zbO w w2 [(w.heap.size + 1,.cells #[.int .i64 0,.slice none 0 0,.slice none 0 0,.slice none 0 0] 32),(w.heap.size,.cells #[.int .i64 wd,.slice a cs.length cap] 28)]:=by rw [hw2]; exact zj7 wd a cap cs w
 have hG:=(zbB (aLt:=Sq.altP)) wd a cap cs w2 (h.below hM.below) (by omega)
 rw [hk] at hG
 have c0:w2.cell? ⟨w.heap.size,0,none⟩=some (.int .i64 wd):=(cell_of_row _ _ 0 _ _ _ (hM.lies (w.heap.size,.cells #[.int .i64 wd,.slice a cs.length cap] 28) (by simp)).1).trans rfl
 have c1:w2.cell? ⟨w.heap.size,1,none⟩=some (.slice a cs.length cap):=(cell_of_row _ _ 1 _ _ _ (hM.lies (w.heap.size,.cells #[.int .i64 wd,.slice a cs.length cap] 28) (by simp)).1).trans rfl
 have HM:Hid (zbO w w2 [(w.heap.size + 1,.cells #[.int .i64 0,.slice none 0 0,.slice none 0 0,.slice none 0 0] 32),(w.heap.size,.cells #[.int .i64 wd,.slice a cs.length cap] 28)]):=hM
 clear hM
 go_enter SqP.func14,Tryz.ntmps14
 go_upto_region 1 with fail
 rw [<- hw2]
 clear hw2
 go_wp2_with fail
 refine hG.mono ?_
 rintro e w3 ⟨rfl,hb3⟩
 have h3:zbO w w3 [(w.heap.size + 1,.cells #[.int .i64 0,.slice none 0 0,.slice none 0 0,.slice none 0 0] 32),(w.heap.size,.cells #[.int .i64 wd,.slice a cs.length cap] 28)]:=HM.out.on hb3
 clear hG hb3 c0 c1
 clear S h hk HM
 have c0:w3.cell? ⟨w.heap.size,0,none⟩=some (.int .i64 wd):=(cell_of_row _ _ 0 _ _ _ (h3.lies (w.heap.size,.cells #[.int .i64 wd,.slice a cs.length cap] 28) (by simp)).1).trans rfl
 have c1:w3.cell? ⟨w.heap.size,1,none⟩=some (.slice a cs.length cap):=(cell_of_row _ _ 1 _ _ _ (h3.lies (w.heap.size,.cells #[.int .i64 wd,.slice a cs.length cap] 28) (by simp)).1).trans rfl
 have H3:Hid (zbO w w3 [(w.heap.size + 1,.cells #[.int .i64 0,.slice none 0 0,.slice none 0 0,.slice none 0 0] 32),(w.heap.size,.cells #[.int .i64 wd,.slice a cs.length cap] 28)]):=h3
 clear h3
 go_wp2_with fail
 refine (hmany _).mono ?_
 rintro e w4 ⟨rfl,hb4⟩
 have h4:zbO w w4 [(w.heap.size + 1,.cells #[.int .i64 0,.slice none 0 0,.slice none 0 0,.slice none 0 0] 32),(w.heap.size,.cells #[.int .i64 wd,.slice a cs.length cap] 28)]:=H3.out.on hb4
 clear hmany hb4 c0 c1 H3
 go_upto_region 4 with fail
 rename_i Q' K hK
 refine zrJ w w4 a cap M (w.heap.size) (w.heap.size + 1) hM20 hp h4 (fun _ _ d _ _ h=>by cases d <;> exact h) (fun y hy=>?_) _ _ _ _ _ _ _ _ _ _ _ _ _ _ _ _ _ _ _ _ _ _ _ _ _ _ (fun x gc c cur bl bf b5 hown hx=>?_)
 ·obtain h0 | ⟨b,off,rfl,hbl,hcell⟩:=HH.out.below hy
  ·rw [h0] at hp
   exact absurd hp (by simp)
  ·exact zkP wd b off cap cs y hbl hcell (by omega) hp
 refine hK _ _ ?_
 obtain ⟨x9,h9⟩:∃ x9,x9=((((x.setCell ⟨b5,0,none⟩ (.int .i64 wd)).setCell ⟨b5,1,none⟩ (.slice (some ⟨gc,0,none⟩) cs.length c)).setCell ⟨b5,2,none⟩ (.slice (some ⟨bl,0,none⟩) M M)).setCell ⟨b5,3,none⟩ (.slice (some ⟨bf,0,none⟩) M M)):=⟨_,rfl⟩
 rw [<- h9]
 have n:=hx.once
 simp only [List.cons_append,List.nil_append,List.map_cons,List.map_nil,List.nodup_cons,List.mem_cons,List.not_mem_nil,or_false,not_or] at n
 have l5:=hx.lies (b5,.cells #[.int .i64 0,.slice none 0 0,.slice none 0 0,.slice none 0 0] 32) (by simp)
 have lf:=hx.lies (bf,.cells (madeCells #[.slice none 0 0] M) 29) (by simp)
 have ll:=hx.lies (bl,.cells (madeCells #[.int .i64 0] M) 3) (by simp)
 have lg:=hx.lies (gc,.cells cur 59) (by simp)
 have lr:=hx.lies (w.heap.size + 1,.cells #[.int .i64 0,.slice none 0 0,.slice none 0 0,.slice none 0 0] 32) (by simp)
 dsimp only at l5 lf ll lg lr
 have r1:=heap_setCell_same _ _ 0 _ _ (.int .i64 wd) l5.1
 have r2:=heap_setCell_same _ _ 1 _ _ (.slice (some ⟨gc,0,none⟩) cs.length c) r1
 have r3:=heap_setCell_same _ _ 2 _ _ (.slice (some ⟨bl,0,none⟩) M M) r2
 have r4:=heap_setCell_same _ _ 3 _ _ (.slice (some ⟨bf,0,none⟩) M M) r3
 rw [<- h9] at r4
 simp only [List.setIfInBounds_toArray,List.set_cons_zero,List.set_cons_succ] at r4
 have o4:∀ b,b ≠ b5->x9.heap[b]?=x.heap[b]?:=fun b q=>by
  rw [h9,heap_setCell_other _ _ _ _ q,heap_setCell_other _ _ _ _ q,heap_setCell_other _ _ _ _ q,heap_setCell_other _ _ _ _ q]
 have hB9:Below w.heap.size w x9:=by
  rw [h9]
  exact (((hx.below.setCell (p:=⟨b5,0,none⟩) l5.2 _).setCell (p:=⟨b5,1,none⟩) l5.2 _).setCell (p:=⟨b5,2,none⟩) l5.2 _).setCell (p:=⟨b5,3,none⟩) l5.2 _
 have hS0:ScS w x9 wd cs M gc c bl bf 0 (madeCells #[.int .i64 0] M) (madeCells #[.slice none 0 0] M) (fun _=>.slice none 0 0) :=
  ⟨hB9,hown x9 _ lg.2 ((o4 gc (by omega)).trans lg.1),(o4 bl (by omega)).trans ll.1,(o4 bf (by omega)).trans lf.1,by simp [madeCells],by simp [madeCells],(fun j hj=>absurd hj (by omega)),(fun j hj=>absurd hj (by omega)),⟨⟨lg.2,ll.2,lf.2⟩,by omega⟩,(fun j hj=>absurd hj (by omega)),(fun j hj=>absurd hj (by omega)),(fun j _ _ hj=>absurd hj (by omega))⟩
 have hgo:=zm9 SS.out w x9 M gc c bl bf b5 (w.heap.size + 1) HMW.out hS0 r4 ((o4 _ (by omega)).trans lr.1) ⟨⟨l5.2,lr.2⟩,by omega⟩ (Post:=fun e w'=>∃ gc c bl bf arrL arrF xs,e=.returned (.tuple #[.agg #[.int .i64 wd,.slice (some ⟨gc,0,none⟩) cs.length c,.slice (some ⟨bl,0,none⟩) M M,.slice (some ⟨bf,0,none⟩) M M],.bool true])/\ScS w w' wd cs M gc c bl bf M arrL arrF xs) (fun w' arrL arrF xs hS=>⟨gc,c,bl,bf,arrL,arrF,xs,rfl,hS⟩)
 exact hgo _ _ _ _ _ _ _ _ _ _ _ _ _ _ _ _ _ _ _ _ _ _ _ _ _ _
end Sp
end Go.Proofs.YtfbbcooklhmeaaaGreat
