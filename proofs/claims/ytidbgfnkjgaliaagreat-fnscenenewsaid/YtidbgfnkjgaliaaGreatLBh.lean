/- Part. -/
import Derived.Test.YtidbgfnkjgaliaaGreatLBc
set_option maxHeartbeats 2000000
set_option linter.unusedVariables false
namespace Go.Proofs.YtidbgfnkjgaliaaGreat
variable{cs:List (Int × Int)}{xs:List Int}{B:Nat}{a:Option Addr}{r:Option Nat}{v:Value}{w w':World}
namespace Sp
variable{aLt:Nat->Func->Func}
open Go.RowKit
def zja(w:World)(a:Option Addr)(xs:List Int):Prop:=xs=[]\/∃ b off,a=some ⟨b,off,none⟩/\b<w.heap.size/\∀ i,i<xs.length->w.cell? ⟨b,off+i,none⟩=some (.int .i64 (xs.getD i 0))
theorem zja.below(h:zja w a xs)(hb:Below w.heap.size w w'):zja w' a xs:=by
 rcases h with h|⟨b,off,rfl,hbl,hc⟩
 ·exact Or.inl h
 ·exact Or.inr ⟨b,off,rfl,nll hbl hb.size,fun i hi=>zab hb (hc i hi)⟩
theorem zqS(h:zgj w B v xs):∃ a cap,v=.slice a xs.length cap/\zja w a xs:=by
 obtain⟨h1,h2⟩:=h
 rcases h2 with ⟨rfl,h2⟩|⟨g,cap,cur,rfl,hg,hh,_,_,_,ht⟩
 ·exact⟨none,0,by rw[h2],Or.inl (List.length_eq_zero_iff.1 h2)⟩
 ·refine⟨_,cap,rfl,Or.inr ⟨g,0,rfl,(gei hh).1,fun i hi=>?_⟩⟩
  simp only[Nat.zero_add]
  have e:(zcJ xs)[i]?=some (.int .i64 (xs.getD i 0)):=by simp[zcJ,List.getElem?_eq_getElem hi]
  rw[cell_of_row w g i cur 3 (0,0) hh,<- e,<- ht,List.getElem?_take_of_lt (by omega)]
  simp
theorem zja.at{w:World}{a:Option Addr}{xs:List Int}(h:zja w a xs){i:Nat}(hi:i<xs.length):∃ b off,a=some ⟨b,off,none⟩/\b<w.heap.size/\w.cell? ⟨b,off+i,none⟩=some (.int .i64 (xs.getD i 0)):=by
 rcases h with q|⟨b,off,e,hb,hc⟩
 ·rw[q] at hi;simp at hi
 ·exact⟨b,off,e,hb,hc i hi⟩
theorem zoS:((SqG.prog aLt).info? 3).map (fun i=>(i.zero,i.size,i.bytes))=some (some (.int .i64 0),1,8):=by kernel_rfl
def zmb(wd:Int)(cs:List (Int × Int))(n:Nat):List Int:=(List.range n).map fun (k:Nat)=>zaF wd cs (k:Int)
def zof(wd:Int)(cs:List (Int × Int)):List Int:=zmb wd cs (zbL wd cs).toNat
theorem zkC(wd:Int)(cs:List (Int × Int))(n:Nat):(zmb wd cs n).length=n:=by simp[zmb]
theorem znm(wd:Int)(cs:List (Int × Int))(n:Nat):zmb wd cs (n+1)=zmb wd cs n++[zaF wd cs (n:Int)]:=by simp[zmb,List.range_succ]
theorem zfK{e:TypeId}{s:Nat}{n:Nat}{xs:List Value}(h:w.ownsRow B e s v n xs)(hb:Below w.heap.size w w'):w'.ownsRow B e s v n xs:=by
 refine⟨h.1,?_⟩
 rcases h.2 with hn|⟨g,cap,cur,hv,hB,hg,rest⟩
 ·exact .inl hn
 ·exact .inr ⟨g,cap,cur,hv,hB,by rw[hb.block g (gei hg).1];exact hg,rest⟩
theorem zp7{b o:Nat}(hg:w.grownBy w' r)(hne:some b≠r)(h:w.cell? ⟨b,o,none⟩=some v):w'.cell? ⟨b,o,none⟩=some v:=by
 have hb:=World.block_lt_of_cell? _ _ h
 unfold World.cell? at h ⊢
 rw[hg.block b hb hne]
 exact h
set_option maxRecDepth 20000 in
theorem zle{wd:Int}{W H:Nat}(S:Siz wd cs W H)(a:Option Addr)(cap:Nat)(w:World)(h:zah w a cs)(hm:cs.length<=1048576) :
  Calls (SqG.prog aLt) 38 #[.agg #[.int .i64 wd,.slice a cs.length cap]] w fun e w'=>∃ v,e=.returned v/\zgj w' w.heap.size v (zof wd cs)/\Below w.heap.size w w':=by
 obtain⟨i0,hi,iz0,iz1,iz2⟩:=info_parts (zoS (aLt:=aLt))
 have hok:=S.ok
 obtain⟨M,hM⟩:∃ M:Nat,M=2 * (W+H):=⟨_,rfl⟩
 have hMI:2 * ((W:Int)+(H:Int))=(M:Int):=by omega
 have hM20:M<=20:=by have:=S.hW;have:=S.hH;omega
 have HPN:Hid (zof wd cs=zmb wd cs M):=by show _=_;unfold zof;rw[S.em,hMI];rfl
 have HLN:Hid (cs.length / W=H):=by
  show _=_
  rw[S.el];exact Nat.mul_div_cancel_left H (by have:=S.hW;omega)
 have hmany:∀ w:World,Calls (SqG.prog aLt) 25 #[.agg #[.int .i64 wd,.slice a cs.length cap]] w fun e w'=>e=.returned (.int .i64 (M:Int))/\Below w.heap.size w w':=by
  intro w
  rw[<- hMI,S.ew]
  exact zen W H a cs.length cap w S.hW S.hH.2 (by omega) HLN.out
 have hbX:Below w.heap.size w (w.alloc (.cells #[.int .i64 wd,.slice a cs.length cap] 25)):=bel
 have hbY:Below (w.alloc (.cells #[.int .i64 wd,.slice a cs.length cap] 25)).heap.size (w.alloc (.cells #[.int .i64 wd,.slice a cs.length cap] 25)) ((w.alloc (.cells #[.int .i64 wd,.slice a cs.length cap] 25)).alloc (.cells #[] 3)):=(Below.refl _ _).alloc (Nat.le_refl _) _
 have g0:(w.alloc (.cells #[.int .i64 wd,.slice a cs.length cap] 25)).cell? ⟨w.heap.size,0,none⟩=some (.int .i64 wd):=by simp[go_sem]
 have g1:(w.alloc (.cells #[.int .i64 wd,.slice a cs.length cap] 25)).cell? ⟨w.heap.size,1,none⟩=some (.slice a cs.length cap):=by simp[go_sem]
 have hO:zgj ((w.alloc (.cells #[.int .i64 wd,.slice a cs.length cap] 25)).alloc (.cells #[] 3)) (w.heap.size+1) (.slice (some ⟨w.heap.size+1,0,none⟩) 0 0) (zmb wd cs 0) :=
  ⟨rfl,Or.inr ⟨w.heap.size+1,0,#[],rfl,Nat.le_refl _,by have:=heap_alloc_new (w.alloc (.cells #[.int .i64 wd,.slice a cs.length cap] 25)) (.cells #[] 3);simpa using this,Nat.le_refl _,by unfold maxLen;omega,rfl,rfl⟩⟩
 have hB:=zak hbX hbX.size hbY
 have hC:=h.below hB
 replace g0:=zab hbY g0
 replace g1:=zab hbY g1
 have SS:Hid (Siz wd cs W H):=S
 have hCw:=h
 clear hbX hbY hMI h hok
 go_enter SqG.func38,Tryz.ntmps38
 go_wp2_with fail
 obtain⟨w3,hw3⟩:∃ w3,w3=(w.alloc (.cells #[.int .i64 wd,.slice a cs.length cap] 25)).alloc (.cells #[] 3):=⟨_,rfl⟩
 rw[<- hw3] at hO hB hC g0 g1 ⊢
 clear hw3
 go_loopw [3,4] (fun oo kk wr=>∃ k:Nat,k<=M/\kk=.int .i64 k/\zgj wr (w.heap.size+1) oo (zmb wd cs k)/\wr.cell? ⟨w.heap.size,0,none⟩=some (.int .i64 wd)/\wr.cell? ⟨w.heap.size,1,none⟩=some (.slice a cs.length cap)/\zah wr a cs/\Below w.heap.size w wr) (fun _ kk _=>M - (intOf kk).toNat)
 case atStart=>exact⟨0,Nat.zero_le _,rfl,hO,g0,g1,hC,hB⟩
 case round =>
  rename World=>wo
  clear hO g0 g1 hC hB
  obtain⟨k,hk,rfl,hO,g0,g1,hC,hB⟩:=hrel
  go_wp2_with fail
  refine(hmany _).mono ?_
  rintro e x0 ⟨rfl,hbm⟩
  replace g0:=zab hbm g0
  replace g1:=zab hbm g1
  have hB0:=zak hB hB.size hbm
  have hC0:=hC.below hbm
  have hO0:=zfK hO hbm
  have hz0:=World.block_lt_of_cell? _ _ g0
  clear hbm hC hB hO
  by_cases hlt:k<M
  ·have hkI:(k:Int)<(M:Int):=by omega
   have hs:inS wd cs (k:Int)=true:=by unfold inS;rw[SS.out.em];exact decide_eq_true (by omega)
   have hT:=zfb hs
   obtain⟨L,hL⟩:∃ L,zaT wd cs (k:Int)=L:=⟨_,rfl⟩
   rw[hL] at hT
   obtain⟨es,hes⟩:∃ es,L.2=es:=⟨_,rfl⟩
   have HP:Hid (∀ u∈es,zgv cs u):=fun u hu=>zht SS.out.ok (hT.ends u (by rw[hes];exact hu))
   have HSM:Hid (zdF es<=64):=by show _<=_;rw[<- hes,hT.sum];omega
   obtain⟨R,hR⟩:∃ R,zaF wd cs (k:Int)=R:=⟨_,rfl⟩
   have ER:Hid (zdk cs es=R):=by show _=_;rw[<- hR];unfold zaF;rw[hL,hes]
   have EL:Hid (zaT wd cs (k:Int)=L):=hL
   have ES:Hid (L.2=es):=hes
   have HSS:Hid (inS wd cs (k:Int)=true):=hs
   have hll:=zkC wd cs k
   have hps:=znm wd cs k
   rw[hR] at hps
   obtain⟨LK,hLK⟩:∃ LK,zmb wd cs k=LK:=⟨_,rfl⟩
   rw[hLK] at hps hll hO0
   have HPS:Hid (zmb wd cs (k+1)=LK++[R]):=hps
   try unfold zgj at hO0
   rw[hll] at hO0
   clear hR hL hes hT hs hLK hps S
   have S:=SS.out
   go_wp2_with fail
   have hz1:=hz0
   refine wp_region_held_drew (S:=(fun w'=>w'.cell? ⟨w.heap.size,0,none⟩=some (.int .i64 wd)/\w'.cell? ⟨w.heap.size,1,none⟩=some (.slice a cs.length cap))) (by kernel_rfl) ?_ (fun hHeld=>?_)
   ·exact⟨g0,g1⟩
   refine wpAnyH_take (i:=0) (oi:={ dst:=some 12,op:=.move (.tmp 3),type:=27,pos:= "l12_pic.go:9",after:=#[],guard:=none }) (v:=?vp0) rfl (by kernel_rfl) (by kernel_rfl) (by kernel_rfl) (fun _ _ _ h=>h) (Or.inl ⟨by rfl,?hyp0⟩) (by assumption) ?restp0
   case hyp0=>(intro w hSw;(try dsimp only at hSw);go_simp;try (with_reducible rfl))
   (try simp only[Act.put,List.setIfInBounds_toArray,List.set_cons_zero,List.set_cons_succ])
   refine wpAnyH_take (i:=1) (oi:={ dst:=some 13,op:=.load 25 (.tmp 1),type:=25,pos:= "l12_pic.go:9",after:=#[],guard:=none }) (v:=?vp1) rfl (by kernel_rfl) (by kernel_rfl) (by kernel_rfl) (fun _ _ _ h=>h) (Or.inl ⟨by rfl,?hyp1⟩) (by assumption) ?restp1
   case hyp1=>(intro w hSw;(try dsimp only at hSw);go_simp;try (with_reducible rfl))
   (try simp only[Act.put,List.setIfInBounds_toArray,List.set_cons_zero,List.set_cons_succ])
   refine wpAnyH_take (i:=2) (oi:={ dst:=some 14,op:=.load 25 (.tmp 1),type:=25,pos:= "l12_pic.go:9",after:=#[],guard:=none }) (v:=?vp2) rfl (by kernel_rfl) (by kernel_rfl) (by kernel_rfl) (fun _ _ _ h=>h) (Or.inl ⟨by rfl,?hyp2⟩) (by assumption) ?restp2
   case hyp2=>(intro w hSw;(try dsimp only at hSw);go_simp;try (with_reducible rfl))
   (try simp only[Act.put,List.setIfInBounds_toArray,List.set_cons_zero,List.set_cons_succ])
   refine wpAnyH_take (i:=3) (oi:={ dst:=some 15,op:=.move (.tmp 4),type:=3,pos:= "l12_pic.go:9",after:=#[],guard:=none }) (v:=?vp3) rfl (by kernel_rfl) (by kernel_rfl) (by kernel_rfl) (fun _ _ _ h=>h) (Or.inl ⟨by rfl,?hyp3⟩) (by assumption) ?restp3
   case hyp3=>(intro w hSw;(try dsimp only at hSw);go_simp;try (with_reducible rfl))
   (try simp only[Act.put,List.setIfInBounds_toArray,List.set_cons_zero,List.set_cons_succ])
   refine wpAnyH_ready (rs:=[4]) (by kernel_rfl) (by simp) ?_
   refine AllReadyH.cons (o:={ dst:=some 16,op:=.call { callee:=.value (.func 47),args:=#[.tmp 14,.tmp 15],argTypes:=#[25,3] },type:=79,pos:= "l12_pic.go:9",after:=#[{ on:=2,ground:=.data },{ on:=3,ground:=.data }],guard:=none }) rfl (fun K hK=>?_) AllReadyH.nil
   go_simp
   (go_at_call 47;refine(zik S a cap _ (hC0.below (Below.refl _ _).drew) (k:Int) HSS.out).mono ?_;rintro e x1 ⟨pb,v1,e1,rfl,hW1,hb6'⟩;have hb6:Below x0.heap.size x0 x1:=zbI hb6';obtain⟨a2,c2,rfl,hR3⟩:=zcA hW1.oe;rw[EL.out,ES.out] at hR3;have c3:=hW1.c3;rw[EL.out,ES.out] at c3;have g06:=zab hb6 g0;have g16:=zab hb6 g1)
   (try go_wp2_with fail)
   refine hK.out _ _ ?_ (fun hHeld=>?_)
   ·exact⟨g06,g16⟩
   clear hK K
   (try simp only[Act.put,List.setIfInBounds_toArray,List.set_cons_zero,List.set_cons_succ])
   refine wpAnyH_take (i:=5) (oi:={ dst:=some 17,op:=.nilCheck (.tmp 16),type:=0,pos:= "l12_pic.go:9",after:=#[{ on:=4,ground:=.data }],guard:=none }) (v:=?vp5) rfl (by kernel_rfl) (by kernel_rfl) (by kernel_rfl) (fun _ _ _ h=>h) (Or.inl ⟨by rfl,?hyp5⟩) (by assumption) ?restp5
   case hyp5=>(intro w hSw;(try dsimp only at hSw);go_simp;try (with_reducible rfl))
   (try simp only[Act.put,List.setIfInBounds_toArray,List.set_cons_zero,List.set_cons_succ])
   refine wpAnyH_take (i:=6) (oi:={ dst:=some 18,op:=.fieldAddr 83 (.tmp 17) 2,type:=0,pos:= "l12_pic.go:9",after:=#[{ on:=5,ground:=.data }],guard:=none }) (v:=?vp6) rfl (by kernel_rfl) (by kernel_rfl) (by kernel_rfl) (fun _ _ _ h=>h) (Or.inl ⟨by rfl,?hyp6⟩) (by assumption) ?restp6
   case hyp6=>(intro w hSw;(try dsimp only at hSw);go_simp;try (with_reducible rfl))
   (try simp only[Act.put,List.setIfInBounds_toArray,List.set_cons_zero,List.set_cons_succ])
   refine wpAnyH_ready (rs:=[7]) (by kernel_rfl) (by simp) ?_
   refine AllReadyH.cons (o:={ dst:=some 19,op:=.load 59 (.tmp 18),type:=59,pos:= "l12_pic.go:9",after:=#[{ on:=6,ground:=.data }],guard:=none }) rfl (fun K hK=>?_) AllReadyH.nil
   go_simp
   refine hK.out _ _ ?_ (fun hHeld=>?_)
   ·exact⟨g06,g16⟩
   clear hK K
   (try simp only[Act.put,List.setIfInBounds_toArray,List.set_cons_zero,List.set_cons_succ])
   refine wpAnyH_ready (rs:=[8]) (by kernel_rfl) (by simp) ?_
   refine AllReadyH.cons (o:={ dst:=some 20,op:=.call { callee:=.value (.func 48),args:=#[.tmp 13,.tmp 19],argTypes:=#[25,59] },type:=3,pos:= "l12_pic.go:9",after:=#[{ on:=1,ground:=.data },{ on:=7,ground:=.data },{ on:=4,ground:=.chain }],guard:=none }) rfl (fun K hK=>?_) AllReadyH.nil
   go_simp
   (go_at_call 48;refine(zeA wd a cap cs _ (hC0.below hb6) hm a2 c2 es hR3 HP.out HSM.out).mono ?_;rintro e x2 ⟨rfl,hb7'⟩;rw[ER.out];have hb7:Below x0.heap.size x0 x2:=zak hb6 hb6.size hb7';have g07:=zab hb7 g0;have g17:=zab hb7 g1;have hO7:=zfK hO0 hb7;have hbA:Below x2.heap.size x2 (x2.alloc (.cells #[.int .i64 R] 3)):=(Below.refl _ _).alloc (Nat.le_refl _) _;have g08:=zab hbA g07;have g18:=zab hbA g17)
   (try go_wp2_with fail)
   refine hK.out _ _ ?_ (fun hHeld=>?_)
   ·exact⟨g07,g17⟩
   clear hK K
   (try simp only[Act.put,List.setIfInBounds_toArray,List.set_cons_zero,List.set_cons_succ])
   refine wpAnyH_ready (rs:=[9]) (by kernel_rfl) (by simp) ?_
   refine AllReadyH.cons (o:={ dst:=some 21,op:=.buildSlice 27 1 #[(0,.tmp 20)],type:=27,pos:= "l12_pic.go:9",after:=#[{ on:=8,ground:=.data }],guard:=none }) rfl (fun K hK=>?_) AllReadyH.nil
   go_simp
   refine hK.out _ _ ?_ (fun hHeld=>?_)
   ·exact⟨g08,g18⟩
   clear hK K
   (try simp only[Act.put,List.setIfInBounds_toArray,List.set_cons_zero,List.set_cons_succ])
   refine wpAnyH_ready (rs:=[10]) (by kernel_rfl) (by simp) ?_
   refine AllReadyH.cons (o:={ dst:=some 22,op:=.call { callee:=.builtin Go.Builtin.append,args:=#[.tmp 12,.tmp 21],argTypes:=#[27,27] },type:=27,pos:= "l12_pic.go:9",after:=#[{ on:=0,ground:=.data },{ on:=9,ground:=.data },{ on:=8,ground:=.chain }],guard:=none }) rfl (fun K hK=>?_) AllReadyH.nil
   (refine step_append_lies _ (by rfl) _ _ _ (by rfl) (w.heap.size+1) 3 i0 (.int .i64 0) 1 8 SqG.underlying27 hi iz0 iz1 iz2 rfl (by omega) _ k (zcJ LK) rfl (World.ownsRow.alloc hO7 _) ⟨x2.heap.size,0,none⟩ 1 1 [.int .i64 R] rfl rfl (World.news_of_block (cs:=#[.int .i64 R]) (t:=3) (fr:=(0,0)) (heap_alloc_new x2 _)) (by simp[Value.oneCell']) (by omega) (by unfold maxLen;omega) (by omega) (by have:=hb7.size;simp;omega) (x2.heap.size+1) (by simp) ?_)
   intro g6 k6 w6 hO6 hg6 hat6 hlt6
   have hown:=fun k q=>(World.ownsRow.lt hO7 k q).1
   have hB6:Below w.heap.size w w6:=(zak (zak hB0 hB0.size hb7) (by have:=hb7.size;omega) hbA).grown hg6 (by have:=hb7.size;simp;omega) (fun k hk=>by have:=hown k hk;omega)
   have g09:w6.cell? ⟨w.heap.size,0,none⟩=some (.int .i64 wd):=zp7 hg6 (fun q=>by have:=hown _ q.symm;omega) g08
   have g19:w6.cell? ⟨w.heap.size,1,none⟩=some (.slice a cs.length cap):=zp7 hg6 (fun q=>by have:=hown _ q.symm;omega) g18
   have hO9:zgj w6 (w.heap.size+1) (.slice (some ⟨g6,0,none⟩) (k+1) k6) (LK++[R]):=by
    unfold zgj
    rw[show (LK++[R]).length=k+1 by simp[hll],show zcJ (LK++[R])=zcJ LK++[.int .i64 R] by simp[zcJ]]
    exact hO6
   refine hK.out _ _ ?_ (fun hHeld=>?_)
   ·exact⟨g09,g19⟩
   clear hK K
   (try simp only[Act.put,List.setIfInBounds_toArray,List.set_cons_zero,List.set_cons_succ])
   refine wpAnyH_take (i:=11) (oi:={ dst:=some 3,op:=.assign (.tmp 22),type:=27,pos:= "l12_pic.go:9",after:=#[{ on:=10,ground:=.data },{ on:=10,ground:=.chain },{ on:=0,ground:=.phase },{ on:=1,ground:=.phase },{ on:=2,ground:=.phase },{ on:=3,ground:=.phase },{ on:=4,ground:=.phase },{ on:=5,ground:=.phase },{ on:=6,ground:=.phase },{ on:=7,ground:=.phase },{ on:=8,ground:=.phase },{ on:=9,ground:=.phase },{ on:=10,ground:=.phase }],guard:=none }) (v:=?vp11) rfl (by kernel_rfl) (by kernel_rfl) (by kernel_rfl) (fun _ _ _ h=>h) (Or.inl ⟨by rfl,?hyp11⟩) (by assumption) ?restp11
   case hyp11=>(intro w hSw;(try dsimp only at hSw);go_simp;try (with_reducible rfl))
   (try simp only[Act.put,List.setIfInBounds_toArray,List.set_cons_zero,List.set_cons_succ])
   refine wpAnyH_done (by kernel_rfl) ?_ _
   go_wp2_with fail
   go_roundw
   case rel=>exact⟨k+1,by omega,by go_num,by rw[HPS.out];exact hO9,g09,g19,hCw.below hB6,hB6⟩
   case measure=>simp[intOf];omega
  ·have hfin:k=M:=by omega
   subst hfin
   have hkI:¬ (k:Int)<(k:Int):=by omega
   go_wp2_with fail
   go_ret
   exact⟨_,rfl,by rw[HPN.out];exact zcg hO0 (by omega),hB0⟩
end Sp
namespace Sp
open Go.RowKit
attribute [local go_sem ↓] Go.wp_at_zero Go.wp_at_succ
theorem zhE(wd:Int)(a:Option Addr)(cap:Nat)(cs:List (Int × Int))(w:World)(h:zah w a cs)(hm:cs.length<=1048576) :
  Calls SqP.prog 15 #[.agg #[.int .i64 wd,.slice a cs.length cap]] w fun e w'=>∃ v,e=.returned v/\zgj w' w.heap.size v (zof wd cs)/\Below w.heap.size w w':=by
 have hbX:Below w.heap.size w (w.alloc (.cells #[.int .i64 wd,.slice a cs.length cap] 25)):=bel
 have g0:(w.alloc (.cells #[.int .i64 wd,.slice a cs.length cap] 25)).cell? ⟨w.heap.size,0,none⟩=some (.int .i64 wd):=by simp[go_sem]
 have g1:(w.alloc (.cells #[.int .i64 wd,.slice a cs.length cap] 25)).cell? ⟨w.heap.size,1,none⟩=some (.slice a cs.length cap):=by simp[go_sem]
 have hC:=h.below hbX
 rcases hok:okG wd cs with _|_
 ·have hv:zof wd cs=[]:=by unfold zof;rw[zfH hok];rfl
  rw[hv]
  have hG:=(zaS (aLt:=Sq.altP)) wd a cap cs _ hC (by omega)
  rw[hok] at hG
  clear hok hv h
  go_enter SqP.func15,Tryz.ntmps15
  go_wp2_with fail
  refine hG.mono ?_
  rintro e wa ⟨rfl,hba⟩
  have hB:=zak hbX hbX.size hba
  have hz:=hB.size
  go_wp2
  go_ret
  exact⟨_,rfl,⟨rfl,Or.inr ⟨wa.heap.size,0,#[],rfl,hz,heap_alloc_new wa _,Nat.le_refl _,by unfold maxLen;omega,rfl,rfl⟩⟩,zak hB hz ((Below.refl _ _).alloc (Nat.le_refl _) _)⟩
 ·obtain⟨W,H,S⟩:=zd5 hok
  have hG:=(zaS (aLt:=Sq.altP)) wd a cap cs _ hC (by omega)
  rw[hok] at hG
  have SS:Hid (Siz wd cs W H):=S
  clear hok h S
  go_enter SqP.func15,Tryz.ntmps15
  go_wp2_with fail
  refine hG.mono ?_
  rintro e wa ⟨rfl,hba⟩
  replace g0:=zab hba g0;replace g1:=zab hba g1
  have hB:=zak hbX hbX.size hba
  have hCa:=hC.below hba
  clear hba hC hbX hG
  go_wp2_with fail
  refine(zle SS.out a cap _ hCa hm).mono ?_
  rintro e wb ⟨v,rfl,hO,hbb⟩
  go_wp2
  go_ret
  exact⟨_,rfl,zcg hO hB.size,zak hB hB.size hbb⟩
theorem znn(wd:Int)(a:Option Addr)(cap:Nat)(cs:List (Int × Int))(w:World)(h:zah w a cs)(hm:cs.length<4611686018427387904)(hk:okG wd cs=false) :
  Calls SqP.prog 13 #[.agg #[.int .i64 wd,.slice a cs.length cap]] w fun e w'=>e=.returned (.slice none 0 0)/\Below w.heap.size w w':=by
 go_enter SqP.func13,SqP.ntmps13
 refine zms wd a cap cs w h hm fun w1 u1 u2 u3 u4 u5 u6 u7 u8 u9 u10 u11 u12 u13 u14 u15 u16 u17 u18 u19 u20 u21 hb1=>?_
 have hC:=h.below hb1
 have hz:=hb1.size
 unfold zdy zsf
 simp only[opr]
 go_wp2_with fail
 refine(zaS _ _ _ cs _ hC (by omega)).mono ?_
 rintro e w2 ⟨rfl,hb2⟩
 rw[hk]
 have hB2:=zak hb1 hz hb2
 go_wp2_with fail
 refine bodyPost_ret (v:=.slice none 0 0) (by simp[results,SqP.results13,Tryz.results13,go_sem]) rfl ⟨rfl,hB2⟩
theorem zoR:(SqP.prog.info? 3).map (fun i=>(i.zero,i.size,i.bytes))=some (some (.int .i64 0),1,8):=by kernel_rfl
theorem zm1(n:Nat)(hn:n<=1048576)(w:World):(Instr.makeSlice 27 (.int .i64 (n:Int)) (.int .i64 (n:Int))).run SqP.prog w=.ok (.slice (some ⟨w.heap.size,0,none⟩) n n) (w.alloc (.cells (madeCells #[.int .i64 0] n) 3)):=by
 obtain⟨i0,hi,iz0,iz1,iz2⟩:=info_parts zoR
 have:=run_make (P:=SqP.prog) w 27 3 i0 (.int .i64 0) SqP.underlying27 hi iz0 .i64 .i64 (n:Int) (n:Int) (by omega) (by omega) (by rw[iz2];omega) (by omega)
 rw[iz1] at this
 simpa [Value.cells] using this
abbrev zbD(wd:Int)(cs:List (Int × Int))(M:Nat):Obj:=.cells (Array.ofFn fun k:Fin M=>.int .i64 (zaF wd cs ((k:Nat):Int))) 3
theorem zgN(wd:Int)(a:Option Addr)(cap:Nat)(cs:List (Int × Int))(w:World)(h:zah w a cs)(hk:okG wd cs=true)(M:Nat)(hM:zbL wd cs=(M:Int)) :
  Calls SqP.prog 13 #[.agg #[.int .i64 wd,.slice a cs.length cap]] w fun e w'=>∃ g,e=.returned (.slice (some ⟨g,0,none⟩) M M)/\w.heap.size<=g/\w'.heap[g]?=some (zbD wd cs M)/\Below w.heap.size w w':=by
 have hn:cs.length<=25:=by
  obtain⟨W,H,rfl,h1,h2,h3,h4,el,hH,hHI⟩:=zcW wd cs hk
  rw[el];exact Nat.le_trans (Nat.mul_le_mul h2 h4) (by omega)
 have hM20:M<=20:=by
  obtain⟨W,H,rfl,h1,h2,h3,h4,el,hH,hHI⟩:=zcW wd cs hk
  rw[zbT hk hHI] at hM
  omega
 have EM:Hid (zbL wd cs=(M:Int)):=hM
 have HK:Hid (okG wd cs=true):=hk
 have hmk:=zm1 M (by omega)
 clear hM hk
 go_enter SqP.func13,SqP.ntmps13
 refine zms wd a cap cs w h (by omega) fun w1 u1 u2 u3 u4 u5 u6 u7 u8 u9 u10 u11 u12 u13 u14 u15 u16 u17 u18 u19 u20 u21 hb1=>?_
 have hC:=h.below hb1
 have hz:=hb1.size
 unfold zdy zsf
 simp only[opr]
 go_wp2_with fail
 refine(zaS _ _ _ cs _ hC (by omega)).mono ?_
 rintro e w2 ⟨rfl,hb2⟩
 rw[HK.out]
 have hB2:=zak hb1 hz hb2
 replace hC:=hC.below hb2
 have hz2:=hB2.size
 clear hb1 hb2
 go_wp2_with fail
 refine(zhE _ _ _ cs _ hC (by omega)).mono ?_
 rintro e w3 ⟨v3,rfl,hO3,hb3⟩
 have hpl:(zof wd cs).length=M:=by unfold zof;rw[zkC,EM.out];rfl
 obtain⟨a3,c3,e3,hR3⟩:=zqS hO3
 rw[hpl] at e3
 subst e3
 have hnew3:∀ b off,a3=some ⟨b,off,none⟩->w2.heap.size<=b/\b<w3.heap.size:=fun b off e=>by
  subst e
  exact World.ownsRow.lt hO3 b rfl
 have hRv:∀ k,k<M->∃ b off,a3=some ⟨b,off,none⟩/\w3.cell? ⟨b,off+k,none⟩=some (.int .i64 (zaF wd cs (k:Int))):=fun k hk=>by
  obtain⟨b,off,e,_,hc⟩:=hR3.at (i:=k) (by rw[hpl];exact hk)
  refine⟨b,off,e,?_⟩
  rw[hc]
  have hq:zof wd cs=(List.range M).map fun (k:Nat)=>zaF wd cs (k:Int):=by unfold zof zmb;rw[EM.out];rfl
  rw[hq]
  simp[List.getD,hk]
 have HRV:Hid (∀ k,k<M->∃ b off,a3=some ⟨b,off,none⟩/\w3.cell? ⟨b,off+k,none⟩=some (.int .i64 (zaF wd cs (k:Int)))):=hRv
 have hB3:=zak hB2 hz2 hb3
 have hz3:=hB3.size
 clear hb3 hB2 hO3 hR3 hRv hpl
 have hbA:Below w3.heap.size w3 (w3.alloc (.cells (madeCells #[.int .i64 0] M) 3)):=(Below.refl _ _).alloc (Nat.le_refl _) _
 have hB4:=zak hB3 hz3 hbA
 have hA0:(w3.alloc (.cells (madeCells #[.int .i64 0] M) 3)).heap[w3.heap.size]?=some (.cells (madeCells #[.int .i64 0] M) 3):=heap_alloc_new w3 _
 go_wp2_with fail
 obtain⟨w4,hw4⟩:∃ w4,w4=w3.alloc (.cells (madeCells #[.int .i64 0] M) 3):=⟨_,rfl⟩
 rw[<- hw4] at hB4 hA0 hbA ⊢
 clear hw4 hmk hB3 hC
 obtain⟨g,hg⟩:∃ g,w3.heap.size=g:=⟨_,rfl⟩
 rw[hg] at hA0 hz3 hbA hnew3 ⊢
 have hgw:w3.heap.size=g:=hg
 clear hg
 have hsz0:(madeCells #[Value.int .i64 0] M).size=M:=by simp[madeCells]
 go_loopw [6,7,8,9,11] (fun kk _ _ _ _ wr=>∃ (k:Nat) (arr:Array Value),k<=M/\kk=.int .i64 k/\Below w.heap.size w wr/\Below g w3 wr/\wr.heap[g]?=some (.cells arr 3)/\arr.size=M/\∀ j,j<k->arr[j]?=some (.int .i64 (zaF wd cs (j:Int)))) (fun kk _ _ _ _ _=>M - (intOf kk).toNat)
 case atStart=>exact⟨0,_,Nat.zero_le _,rfl,hB4,hbA,hA0,hsz0,fun j hj=>by omega⟩
 case round =>
  rename World=>wo
  obtain⟨k,arr,hk,rfl,hbo,hb3o,hg,hsz,harr⟩:=hrel
  by_cases hlt:k<M
  ·have bl:decide ((k:Int)<(M:Int))=true:=decide_eq_true (by omega)
   have wk:IntKind.i64.wrap ((k:Int)+1)=(k:Int)+1:=IntWalk.i64_in _ (by omega)
   have hgl:g<wo.heap.size:=(gei hg).1
   obtain⟨x,hx⟩:∃ x,zaF wd cs (k:Int)=x:=⟨_,rfl⟩
   have HX:Hid (zaF wd cs (k:Int)=x):=hx
   obtain⟨b3,off3,ea3,hcx⟩:=HRV.out k hlt
   rw[hx] at hcx
   have hb3l:=(hnew3 b3 off3 ea3).2
   have y0:wo.cell? ⟨b3,off3+k,none⟩=some (.int .i64 x):=by
    rw[World.cell?_of_block (w:=w3) (hb3o.block b3 (by omega))]
    exact hcx
   subst ea3
   clear hx hcx
   have hk5:k<arr.size:=by omega
   have c5:wo.cell? ⟨g,k,none⟩=some arr[k]:=by rw[cell_of_row _ _ _ _ _ _ hg];exact Array.getElem?_eq_getElem hk5
   have f5:wo.frozen? ⟨g,k,none⟩=false:=frozen_of_row _ _ _ _ _ hg
   have hb6:Below w.heap.size w (wo.setCell ⟨g,k,none⟩ (.int .i64 x)):=hbo.setCell (p:=⟨g,k,none⟩) (by show w.heap.size<=g;omega) _
   have hb36:Below g w3 (wo.setCell ⟨g,k,none⟩ (.int .i64 x)):=hb3o.setCell (p:=⟨g,k,none⟩) (Nat.le_refl _) _
   have hg6:(wo.setCell ⟨g,k,none⟩ (.int .i64 x)).heap[g]?=some (.cells (arr.setIfInBounds k (.int .i64 x)) 3):=heap_setCell_same wo g k _ _ _ hg
   have harr6:∀ j,j<k+1->(arr.setIfInBounds k (.int .i64 x))[j]?=some (.int .i64 (zaF wd cs (j:Int))):=fun j hj=>by
    by_cases e:j=k
    ·subst e
     rw[Array.getElem?_setIfInBounds_self_of_lt hk5,HX.out]
    ·rw[Array.getElem?_setIfInBounds_ne (by omega)]
     exact harr j (by omega)
   clear harr hbo hg hb3o
   go_wp2_with fail
   go_roundw
   case rel=>exact⟨k+1,_,by omega,by go_num,hb6,hb36,hg6,by simpa using hsz,harr6⟩
   case measure=>simp[intOf];omega
  ·have bl:decide ((k:Int)<(M:Int))=false:=decide_eq_false (by omega)
   have hfin:wo.heap[g]?=some (zbD wd cs M):=by
    rw[hg]
    refine congrArg (fun x=>some (Obj.cells x 3)) (Array.ext (by simp[hsz]) fun j h1 h2=>?_)
    have:=harr j (by omega)
    rw[Array.getElem?_eq_getElem h1] at this
    simpa using this
   go_wp2_with fail
   refine bodyPost_ret (v:=.slice (some ⟨g,0,none⟩) M M) (by simp[results,SqP.results13,Tryz.results13,go_sem]) rfl ⟨g,rfl,by omega,hfin,hbo⟩
