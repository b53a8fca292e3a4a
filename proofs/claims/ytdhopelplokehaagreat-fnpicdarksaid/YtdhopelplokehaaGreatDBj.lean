/- Of the proof: PHr, PHi, PHj -/
import Derived.Test.YtdhopelplokehaaGreatDBi
set_option maxHeartbeats 2000000
set_option linter.unusedVariables false
namespace Go.Proofs.YtdhopelplokehaaGreat
namespace Sp
open Go.RowKit
def R1At (w:World) (a:Option Addr) (xs:List Int):Prop:=xs=[]\/∃ b off,a=some ⟨b,off,none⟩/\b < w.heap.size/\∀ i,i < xs.length->w.cell? ⟨b,off + i,none⟩=some (.int .i64 (xs.getD i 0))
theorem R1At.below {w w':World} {a:Option Addr} {xs:List Int} (h:R1At w a xs) (hb:Below w.heap.size w w'):R1At w' a xs:=by
 rcases h with h | ⟨b,off,rfl,hbl,hc⟩
 ·exact Or.inl h
 ·exact Or.inr ⟨b,off,rfl,Nat.lt_of_lt_of_le hbl hb.size,fun i hi=>keepc hb (hc i hi)⟩
theorem row1_at {w:World} {B:Nat} {v:Value} {xs:List Int} (h:OwnI w B v xs):∃ a cap,v=.slice a xs.length cap/\R1At w a xs:=by
 obtain ⟨h1,h2⟩:=h
 rcases h2 with ⟨rfl,h2⟩ | ⟨g,cap,cur,rfl,hg,hh,_,_,_,ht⟩
 ·exact ⟨none,0,by rw [h2],Or.inl (List.length_eq_zero_iff.1 h2)⟩
 ·refine ⟨_,cap,rfl,Or.inr ⟨g,0,rfl,(Array.getElem?_eq_some_iff.1 hh).1,fun i hi=>?_⟩⟩
  simp only [Nat.zero_add]
  have e:(intsV xs)[i]?=some (.int .i64 (xs.getD i 0)):=by simp [intsV,List.getElem?_eq_getElem hi]
  rw [cell_of_row w g i cur 3 (0,0) hh,<- e,<- ht,List.getElem?_take_of_lt (by omega)]
  simp
theorem R1At.at {w:World} {a:Option Addr} {xs:List Int} (h:R1At w a xs) {i:Nat} (hi:i < xs.length):∃ b off,a=some ⟨b,off,none⟩/\b < w.heap.size/\w.cell? ⟨b,off + i,none⟩=some (.int .i64 (xs.getD i 0)):=by
 rcases h with q | ⟨b,off,e,hb,hc⟩
 ·rw [q] at hi; simp at hi
 ·exact ⟨b,off,e,hb,hc i hi⟩
end Sp
namespace Sp
open Go.RowKit
theorem infoIntP:(SqP.prog.info? 3).map (fun i=>(i.zero,i.size,i.bytes))=some (some (.int .i64 0),1,8):=by kernel_rfl
def picK (wd:Int) (cs:List (Int × Int)) (n:Nat):List Int:=(List.range n).map fun (k:Nat)=>lightN wd cs (k:Int)
def picN (wd:Int) (cs:List (Int × Int)):List Int:=picK wd cs (manyG wd cs).toNat
theorem picK_len (wd:Int) (cs:List (Int × Int)) (n:Nat):(picK wd cs n).length=n:=by simp [picK]
theorem picK_succ (wd:Int) (cs:List (Int × Int)) (n:Nat):picK wd cs (n + 1)=picK wd cs n ++ [lightN wd cs (n:Int)]:=by simp [picK,List.range_succ]
theorem owns_belowP {w w':World} {B:Nat} {e:TypeId} {s:Nat} {v:Value} {n:Nat} {xs:List Value} (h:w.ownsRow B e s v n xs) (hb:Below w.heap.size w w'):w'.ownsRow B e s v n xs:=by
 refine ⟨h.1,?_⟩
 rcases h.2 with hn | ⟨g,cap,cur,hv,hB,hg,rest⟩
 ·exact .inl hn
 ·exact .inr ⟨g,cap,cur,hv,hB,by rw [hb.block g (Array.getElem?_eq_some_iff.1 hg).1]; exact hg,rest⟩
theorem gcellP {w w':World} {r:Option Nat} {b o:Nat} {v:Value} (hg:w.grownBy w' r) (hne:some b ≠ r) (h:w.cell? ⟨b,o,none⟩=some v):w'.cell? ⟨b,o,none⟩=some v:=by
 have hb:=World.block_lt_of_cell? _ _ h
 unfold World.cell? at h ⊢
 rw [hg.block b hb hne]
 exact h
set_option maxRecDepth 20000 in
theorem l12Pic_any {wd:Int} {cs:List (Int × Int)} {W H:Nat} (S:Siz wd cs W H) (a:Option Addr) (cap:Nat) (w:World) (h:CellsAt w a cs) (hm:cs.length<=1048576) :
  Calls SqP.prog 40 #[.agg #[.int .i64 wd,.slice a cs.length cap]] w fun e w'=>∃ v,e=.returned v/\OwnI w' w.heap.size v (picN wd cs)/\Below w.heap.size w w':=by
 obtain ⟨i0,hi,iz0,iz1,iz2⟩:=info_parts infoIntP
 have hok:=S.ok
 obtain ⟨M,hM⟩:∃ M:Nat,M=2 * (W + H):=⟨_,rfl⟩
 have hMI:2 * ((W:Int) + (H:Int))=(M:Int):=by omega
 have hM20:M<=20:=by have:=S.hW; have:=S.hH; omega
 have HPN:Hid (picN wd cs=picK wd cs M):=by show _=_; unfold picN; rw [S.em,hMI]; rfl
 have HLN:Hid (cs.length / W=H):=by
  show _=_
  rw [S.el]; exact Nat.mul_div_cancel_left H (by have:=S.hW; omega)
 have hmany:∀ w:World,Calls SqP.prog 50 #[.agg #[.int .i64 wd,.slice a cs.length cap]] w fun e w'=>e=.returned (.int .i64 (M:Int))/\Below w.heap.size w w':=by
  intro w
  rw [<- hMI,S.ew]
  exact l3Many_any W H a cs.length cap w S.hW S.hH.2 (by omega) HLN.out
 have hbX:Below w.heap.size w (w.alloc (.cells #[.int .i64 wd,.slice a cs.length cap] 25)):=bel
 have hbY:Below (w.alloc (.cells #[.int .i64 wd,.slice a cs.length cap] 25)).heap.size (w.alloc (.cells #[.int .i64 wd,.slice a cs.length cap] 25)) ((w.alloc (.cells #[.int .i64 wd,.slice a cs.length cap] 25)).alloc (.cells #[] 3)):=(Below.refl _ _).alloc (Nat.le_refl _) _
 have g0:(w.alloc (.cells #[.int .i64 wd,.slice a cs.length cap] 25)).cell? ⟨w.heap.size,0,none⟩=some (.int .i64 wd):=by simp [go_sem]
 have g1:(w.alloc (.cells #[.int .i64 wd,.slice a cs.length cap] 25)).cell? ⟨w.heap.size,1,none⟩=some (.slice a cs.length cap):=by simp [go_sem]
 have hO:OwnI ((w.alloc (.cells #[.int .i64 wd,.slice a cs.length cap] 25)).alloc (.cells #[] 3)) (w.heap.size + 1) (.slice (some ⟨w.heap.size + 1,0,none⟩) 0 0) (picK wd cs 0) :=
  ⟨rfl,Or.inr ⟨w.heap.size + 1,0,#[],rfl,Nat.le_refl _,by have:=heap_alloc_new (w.alloc (.cells #[.int .i64 wd,.slice a cs.length cap] 25)) (.cells #[] 3); simpa using this,Nat.le_refl _,by unfold maxLen; omega,rfl,rfl⟩⟩
 have hB:=bcall hbX hbX.size hbY
 have hC:=h.below hB
 replace g0:=keepc hbY g0
 replace g1:=keepc hbY g1
 have SS:Hid (Siz wd cs W H):=S
 have hCw:=h
 clear hbX hbY hMI h hok
 go_enter SqP.func40,Tryz.ntmps40
 go_wp2_with fail
 obtain ⟨w3,hw3⟩:∃ w3,w3=(w.alloc (.cells #[.int .i64 wd,.slice a cs.length cap] 25)).alloc (.cells #[] 3):=⟨_,rfl⟩
 rw [<- hw3] at hO hB hC g0 g1 ⊢
 clear hw3
 go_loopw [3,4] (fun oo kk wr=>∃ k:Nat,k<=M/\kk=.int .i64 k/\OwnI wr (w.heap.size + 1) oo (picK wd cs k)/\wr.cell? ⟨w.heap.size,0,none⟩=some (.int .i64 wd)/\wr.cell? ⟨w.heap.size,1,none⟩=some (.slice a cs.length cap)/\CellsAt wr a cs/\Below w.heap.size w wr) (fun _ kk _=>M - (intOf kk).toNat)
 case atStart=>exact ⟨0,Nat.zero_le _,rfl,hO,g0,g1,hC,hB⟩
 case round =>
  rename World=>wo
  clear hO g0 g1 hC hB
  obtain ⟨k,hk,rfl,hO,g0,g1,hC,hB⟩:=hrel
  go_wp2_with fail
  refine (hmany _).mono ?_
  rintro e x0 ⟨rfl,hbm⟩
  replace g0:=keepc hbm g0
  replace g1:=keepc hbm g1
  have hB0:=bcall hB hB.size hbm
  have hC0:=hC.below hbm
  have hO0:=owns_belowP hO hbm
  have hz0:=World.block_lt_of_cell? _ _ g0
  clear hbm hC hB hO
  by_cases hlt:k < M
  ·have hkI:(k:Int) < (M:Int):=by omega
   have hs:inS wd cs (k:Int)=true:=by unfold inS; rw [SS.out.em]; exact decide_eq_true (by omega)
   have hT:=trail_ok hs
   obtain ⟨L,hL⟩:∃ L,trailT wd cs (k:Int)=L:=⟨_,rfl⟩
   rw [hL] at hT
   obtain ⟨es,hes⟩:∃ es,L.2=es:=⟨_,rfl⟩
   have HP:Hid (∀ u ∈ es,LampOk cs u):=fun u hu=>lamp_of SS.out.ok (hT.ends u (by rw [hes]; exact hu))
   have HSM:Hid (sumW es<=64):=by show _<=_; rw [<- hes,hT.sum]; omega
   obtain ⟨R,hR⟩:∃ R,lightN wd cs (k:Int)=R:=⟨_,rfl⟩
   have ER:Hid (sumL cs es=R):=by show _=_; rw [<- hR]; unfold lightN; rw [hL,hes]
   have EL:Hid (trailT wd cs (k:Int)=L):=hL
   have ES:Hid (L.2=es):=hes
   have HSS:Hid (inS wd cs (k:Int)=true):=hs
   have hll:=picK_len wd cs k
   have hps:=picK_succ wd cs k
   rw [hR] at hps
   obtain ⟨LK,hLK⟩:∃ LK,picK wd cs k=LK:=⟨_,rfl⟩
   rw [hLK] at hps hll hO0
   have HPS:Hid (picK wd cs (k + 1)=LK ++ [R]):=hps
   try unfold OwnI at hO0
   rw [hll] at hO0
   clear hR hL hes hT hs hLK hps S
   have S:=SS.out
   go_wp2_with fail
   have hz1:=hz0
   refine wp_region_held_drew (S:=(fun w'=>w'.cell? ⟨w.heap.size,0,none⟩=some (.int .i64 wd)/\w'.cell? ⟨w.heap.size,1,none⟩=some (.slice a cs.length cap))) (by kernel_rfl) ?_ (fun hHeld=>?_)
   ·exact ⟨g0,g1⟩
   refine wpAnyH_take (i:=0) (oi:={ dst:=some 12,op:=Go.Op.move (Go.Operand.tmp 3),type:=27,pos:= "l12_pic.go:9",after:=#[],guard:=none }) (v:=?vp0) rfl (by kernel_rfl) (by kernel_rfl) (by kernel_rfl) (fun _ _ _ h=>h) (Or.inl ⟨by rfl,?hyp0⟩) (by assumption) ?restp0
   case hyp0=>(intro w hSw; (try dsimp only at hSw); go_simp; try (with_reducible rfl))
   (try simp only [Act.put,List.setIfInBounds_toArray,List.set_cons_zero,List.set_cons_succ])
   refine wpAnyH_take (i:=1) (oi:={ dst:=some 13,op:=Go.Op.load 25 (Go.Operand.tmp 1),type:=25,pos:= "l12_pic.go:9",after:=#[],guard:=none }) (v:=?vp1) rfl (by kernel_rfl) (by kernel_rfl) (by kernel_rfl) (fun _ _ _ h=>h) (Or.inl ⟨by rfl,?hyp1⟩) (by assumption) ?restp1
   case hyp1=>(intro w hSw; (try dsimp only at hSw); go_simp; try (with_reducible rfl))
   (try simp only [Act.put,List.setIfInBounds_toArray,List.set_cons_zero,List.set_cons_succ])
   refine wpAnyH_take (i:=2) (oi:={ dst:=some 14,op:=Go.Op.load 25 (Go.Operand.tmp 1),type:=25,pos:= "l12_pic.go:9",after:=#[],guard:=none }) (v:=?vp2) rfl (by kernel_rfl) (by kernel_rfl) (by kernel_rfl) (fun _ _ _ h=>h) (Or.inl ⟨by rfl,?hyp2⟩) (by assumption) ?restp2
   case hyp2=>(intro w hSw; (try dsimp only at hSw); go_simp; try (with_reducible rfl))
   (try simp only [Act.put,List.setIfInBounds_toArray,List.set_cons_zero,List.set_cons_succ])
   refine wpAnyH_take (i:=3) (oi:={ dst:=some 15,op:=Go.Op.move (Go.Operand.tmp 4),type:=3,pos:= "l12_pic.go:9",after:=#[],guard:=none }) (v:=?vp3) rfl (by kernel_rfl) (by kernel_rfl) (by kernel_rfl) (fun _ _ _ h=>h) (Or.inl ⟨by rfl,?hyp3⟩) (by assumption) ?restp3
   case hyp3=>(intro w hSw; (try dsimp only at hSw); go_simp; try (with_reducible rfl))
   (try simp only [Act.put,List.setIfInBounds_toArray,List.set_cons_zero,List.set_cons_succ])
   refine wpAnyH_ready (rs:=[4]) (by kernel_rfl) (by simp) ?_
   refine AllReadyH.cons (o:={ dst:=some 16,op:=Go.Op.call { callee:=Go.Callee.value (Go.Operand.func 51),args:=#[Go.Operand.tmp 14,Go.Operand.tmp 15],argTypes:=#[25,3] },type:=73,pos:= "l12_pic.go:9",after:=#[{ on:=2,ground:=Go.Ground.data },{ on:=3,ground:=Go.Ground.data }],guard:=none }) rfl (fun K hK=>?_) AllReadyH.nil
   go_simp
   (go_at_call 51; refine (l11Go_any S a cap _ (hC0.below (Below.refl _ _).drew) (k:Int) HSS.out).mono ?_; rintro e x1 ⟨pb,v1,e1,rfl,hW1,hb6'⟩; have hb6:Below x0.heap.size x0 x1:=bdrew hb6'; obtain ⟨a2,c2,rfl,hR3⟩:=row3_at hW1.oe; rw [EL.out,ES.out] at hR3; have c3:=hW1.c3; rw [EL.out,ES.out] at c3; have g06:=keepc hb6 g0; have g16:=keepc hb6 g1)
   (try go_wp2_with fail)
   refine hK.out _ _ ?_ (fun hHeld=>?_)
   ·exact ⟨g06,g16⟩
   clear hK K
   (try simp only [Act.put,List.setIfInBounds_toArray,List.set_cons_zero,List.set_cons_succ])
   refine wpAnyH_take (i:=5) (oi:={ dst:=some 17,op:=Go.Op.nilCheck (Go.Operand.tmp 16),type:=0,pos:= "l12_pic.go:9",after:=#[{ on:=4,ground:=Go.Ground.data }],guard:=none }) (v:=?vp5) rfl (by kernel_rfl) (by kernel_rfl) (by kernel_rfl) (fun _ _ _ h=>h) (Or.inl ⟨by rfl,?hyp5⟩) (by assumption) ?restp5
   case hyp5=>(intro w hSw; (try dsimp only at hSw); go_simp; try (with_reducible rfl))
   (try simp only [Act.put,List.setIfInBounds_toArray,List.set_cons_zero,List.set_cons_succ])
   refine wpAnyH_take (i:=6) (oi:={ dst:=some 18,op:=Go.Op.fieldAddr 72 (Go.Operand.tmp 17) 2,type:=0,pos:= "l12_pic.go:9",after:=#[{ on:=5,ground:=Go.Ground.data }],guard:=none }) (v:=?vp6) rfl (by kernel_rfl) (by kernel_rfl) (by kernel_rfl) (fun _ _ _ h=>h) (Or.inl ⟨by rfl,?hyp6⟩) (by assumption) ?restp6
   case hyp6=>(intro w hSw; (try dsimp only at hSw); go_simp; try (with_reducible rfl))
   (try simp only [Act.put,List.setIfInBounds_toArray,List.set_cons_zero,List.set_cons_succ])
   refine wpAnyH_ready (rs:=[7]) (by kernel_rfl) (by simp) ?_
   refine AllReadyH.cons (o:={ dst:=some 19,op:=Go.Op.load 56 (Go.Operand.tmp 18),type:=56,pos:= "l12_pic.go:9",after:=#[{ on:=6,ground:=Go.Ground.data }],guard:=none }) rfl (fun K hK=>?_) AllReadyH.nil
   go_simp
   refine hK.out _ _ ?_ (fun hHeld=>?_)
   ·exact ⟨g06,g16⟩
   clear hK K
   (try simp only [Act.put,List.setIfInBounds_toArray,List.set_cons_zero,List.set_cons_succ])
   refine wpAnyH_ready (rs:=[8]) (by kernel_rfl) (by simp) ?_
   refine AllReadyH.cons (o:={ dst:=some 20,op:=Go.Op.call { callee:=Go.Callee.value (Go.Operand.func 66),args:=#[Go.Operand.tmp 13,Go.Operand.tmp 19],argTypes:=#[25,56] },type:=3,pos:= "l12_pic.go:9",after:=#[{ on:=1,ground:=Go.Ground.data },{ on:=7,ground:=Go.Ground.data },{ on:=4,ground:=Go.Ground.chain }],guard:=none }) rfl (fun K hK=>?_) AllReadyH.nil
   go_simp
   (go_at_call 66; refine (l11Light_any wd a cap cs _ (hC0.below hb6) hm a2 c2 es hR3 HP.out HSM.out).mono ?_; rintro e x2 ⟨rfl,hb7'⟩; rw [ER.out]; have hb7:Below x0.heap.size x0 x2:=bcall hb6 hb6.size hb7'; have g07:=keepc hb7 g0; have g17:=keepc hb7 g1; have hO7:=owns_belowP hO0 hb7; have hbA:Below x2.heap.size x2 (x2.alloc (.cells #[.int .i64 R] 3)):=(Below.refl _ _).alloc (Nat.le_refl _) _; have g08:=keepc hbA g07; have g18:=keepc hbA g17)
   (try go_wp2_with fail)
   refine hK.out _ _ ?_ (fun hHeld=>?_)
   ·exact ⟨g07,g17⟩
   clear hK K
   (try simp only [Act.put,List.setIfInBounds_toArray,List.set_cons_zero,List.set_cons_succ])
   refine wpAnyH_ready (rs:=[9]) (by kernel_rfl) (by simp) ?_
   refine AllReadyH.cons (o:={ dst:=some 21,op:=Go.Op.buildSlice 27 1 #[(0,Go.Operand.tmp 20)],type:=27,pos:= "l12_pic.go:9",after:=#[{ on:=8,ground:=Go.Ground.data }],guard:=none }) rfl (fun K hK=>?_) AllReadyH.nil
   go_simp
   refine hK.out _ _ ?_ (fun hHeld=>?_)
   ·exact ⟨g08,g18⟩
   clear hK K
   (try simp only [Act.put,List.setIfInBounds_toArray,List.set_cons_zero,List.set_cons_succ])
   refine wpAnyH_ready (rs:=[10]) (by kernel_rfl) (by simp) ?_
   refine AllReadyH.cons (o:={ dst:=some 22,op:=Go.Op.call { callee:=Go.Callee.builtin Go.Builtin.append,args:=#[Go.Operand.tmp 12,Go.Operand.tmp 21],argTypes:=#[27,27] },type:=27,pos:= "l12_pic.go:9",after:=#[{ on:=0,ground:=Go.Ground.data },{ on:=9,ground:=Go.Ground.data },{ on:=8,ground:=Go.Ground.chain }],guard:=none }) rfl (fun K hK=>?_) AllReadyH.nil
   (refine step_append_lies _ (by rfl) _ _ _ (by rfl) (w.heap.size + 1) 3 i0 (.int .i64 0) 1 8 SqP.underlying27 hi iz0 iz1 iz2 rfl (by omega) _ k (intsV LK) rfl (World.ownsRow.alloc hO7 _) ⟨x2.heap.size,0,none⟩ 1 1 [.int .i64 R] rfl rfl (World.news_of_block (cs:=#[.int .i64 R]) (t:=3) (fr:=(0,0)) (heap_alloc_new x2 _)) (by simp [Value.oneCell']) (by omega) (by unfold maxLen; omega) (by omega) (by have:=hb7.size; simp; omega) (x2.heap.size + 1) (by simp) ?_)
   intro g6 k6 w6 hO6 hg6 hat6 hlt6
   have hown:=fun k q=>(World.ownsRow.lt hO7 k q).1
   have hB6:Below w.heap.size w w6:=(bcall (bcall hB0 hB0.size hb7) (by have:=hb7.size; omega) hbA).grown hg6 (by have:=hb7.size; simp; omega) (fun k hk=>by have:=hown k hk; omega)
   have g09:w6.cell? ⟨w.heap.size,0,none⟩=some (.int .i64 wd):=gcellP hg6 (fun q=>by have:=hown _ q.symm; omega) g08
   have g19:w6.cell? ⟨w.heap.size,1,none⟩=some (.slice a cs.length cap):=gcellP hg6 (fun q=>by have:=hown _ q.symm; omega) g18
   have hO9:OwnI w6 (w.heap.size + 1) (.slice (some ⟨g6,0,none⟩) (k + 1) k6) (LK ++ [R]):=by
    unfold OwnI
    rw [show (LK ++ [R]).length=k + 1 by simp [hll],show intsV (LK ++ [R])=intsV LK ++ [.int .i64 R] by simp [intsV]]
    exact hO6
   refine hK.out _ _ ?_ (fun hHeld=>?_)
   ·exact ⟨g09,g19⟩
   clear hK K
   (try simp only [Act.put,List.setIfInBounds_toArray,List.set_cons_zero,List.set_cons_succ])
   refine wpAnyH_take (i:=11) (oi:={ dst:=some 3,op:=Go.Op.assign (Go.Operand.tmp 22),type:=27,pos:= "l12_pic.go:9",after:=#[{ on:=10,ground:=Go.Ground.data },{ on:=10,ground:=Go.Ground.chain },{ on:=0,ground:=Go.Ground.phase },{ on:=1,ground:=Go.Ground.phase },{ on:=2,ground:=Go.Ground.phase },{ on:=3,ground:=Go.Ground.phase },{ on:=4,ground:=Go.Ground.phase },{ on:=5,ground:=Go.Ground.phase },{ on:=6,ground:=Go.Ground.phase },{ on:=7,ground:=Go.Ground.phase },{ on:=8,ground:=Go.Ground.phase },{ on:=9,ground:=Go.Ground.phase },{ on:=10,ground:=Go.Ground.phase }],guard:=none }) (v:=?vp11) rfl (by kernel_rfl) (by kernel_rfl) (by kernel_rfl) (fun _ _ _ h=>h) (Or.inl ⟨by rfl,?hyp11⟩) (by assumption) ?restp11
   case hyp11=>(intro w hSw; (try dsimp only at hSw); go_simp; try (with_reducible rfl))
   (try simp only [Act.put,List.setIfInBounds_toArray,List.set_cons_zero,List.set_cons_succ])
   refine wpAnyH_done (by kernel_rfl) ?_ _
   go_wp2_with fail
   go_roundw
   case rel=>exact ⟨k + 1,by omega,by go_num,by rw [HPS.out]; exact hO9,g09,g19,hCw.below hB6,hB6⟩
   case measure=>simp [intOf]; omega
  ·have hfin:k=M:=by omega
   subst hfin
   have hkI:¬ (k:Int) < (k:Int):=by omega
   go_wp2_with fail
   go_ret
   exact ⟨_,rfl,by rw [HPN.out]; exact ownsRow_mono hO0 (by omega),hB0⟩
end Sp
namespace Sp
open Go.RowKit
attribute [local go_sem ↓] Go.wp_at_zero Go.wp_at_succ
theorem specPicOf_any (wd:Int) (a:Option Addr) (cap:Nat) (cs:List (Int × Int)) (w:World) (h:CellsAt w a cs) (hm:cs.length<=1048576) :
  Calls SqP.prog 14 #[.agg #[.int .i64 wd,.slice a cs.length cap]] w fun e w'=>∃ v,e=.returned v/\OwnI w' w.heap.size v (picN wd cs)/\Below w.heap.size w w':=by
 have hbX:Below w.heap.size w (w.alloc (.cells #[.int .i64 wd,.slice a cs.length cap] 25)):=bel
 have g0:(w.alloc (.cells #[.int .i64 wd,.slice a cs.length cap] 25)).cell? ⟨w.heap.size,0,none⟩=some (.int .i64 wd):=by simp [go_sem]
 have g1:(w.alloc (.cells #[.int .i64 wd,.slice a cs.length cap] 25)).cell? ⟨w.heap.size,1,none⟩=some (.slice a cs.length cap):=by simp [go_sem]
 have hC:=h.below hbX
 rcases hok:okG wd cs with _ | _
 ·have hv:picN wd cs=[]:=by unfold picN; rw [manyG_bad hok]; rfl
  rw [hv]
  have hG:=specGridOk_any wd a cap cs _ hC (by omega)
  rw [hok] at hG
  clear hok hv h
  go_enter SqP.func14,Tryz.ntmps14
  go_wp2_with fail
  refine hG.mono ?_
  rintro e wa ⟨rfl,hba⟩
  have hB:=bcall hbX hbX.size hba
  have hz:=hB.size
  go_wp2
  go_ret
  exact ⟨_,rfl,⟨rfl,Or.inr ⟨wa.heap.size,0,#[],rfl,hz,heap_alloc_new wa _,Nat.le_refl _,by unfold maxLen; omega,rfl,rfl⟩⟩,bcall hB hz ((Below.refl _ _).alloc (Nat.le_refl _) _)⟩
 ·obtain ⟨W,H,S⟩:=siz_of hok
  have hG:=specGridOk_any wd a cap cs _ hC (by omega)
  rw [hok] at hG
  have SS:Hid (Siz wd cs W H):=S
  clear hok h S
  go_enter SqP.func14,Tryz.ntmps14
  go_wp2_with fail
  refine hG.mono ?_
  rintro e wa ⟨rfl,hba⟩
  replace g0:=keepc hba g0; replace g1:=keepc hba g1
  have hB:=bcall hbX hbX.size hba
  have hCa:=hC.below hba
  clear hba hC hbX hG
  go_wp2_with fail
  refine (l12Pic_any SS.out a cap _ hCa hm).mono ?_
  rintro e wb ⟨v,rfl,hO,hbb⟩
  go_wp2
  go_ret
  exact ⟨_,rfl,ownsRow_mono hO hB.size,bcall hB hB.size hbb⟩
end Sp
end Go.Proofs.YtdhopelplokehaaGreat
