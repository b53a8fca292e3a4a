/- Part. -/
import Derived.Test.YthfhlgdeghnggaaGreatTAy
set_option maxHeartbeats 4000000
set_option linter.unusedVariables false
namespace Go.Proofs.YthfhlgdeghnggaaGreat
variable{cs:List (Int × Int)}{xs:List Int}{v:Value}{w:World}
namespace Sp
variable{aLt:Nat->Func->Func}
open Go.RowKit
attribute [local go_sem ↓] Go.wp_at_zero Go.wp_at_succ
theorem zn6{B:Nat}(h:zb7 w B v xs):∃ a c,v=.slice a xs.length c:=by
 rcases h.2 with ⟨q,hn⟩|⟨g,c2,cur,q,_⟩
 ·exact⟨none,0,by rw[q,hn]⟩
 ·exact⟨_,_,q⟩
theorem zb8{b o b' o':Nat}{u:Value}(hne:b'≠b)(h:w.cell? ⟨b,o,none⟩=some v):(w.setCell ⟨b',o',none⟩ u).cell? ⟨b,o,none⟩=some v:=by
 rw[World.cell?_of_block (w:=w) (a:=⟨b,o,none⟩) (Below.heap_setCell _ _ _ _ (Ne.symm hne))]
 exact h
set_option maxRecDepth 20000 in
theorem zpW{wd:Int}{W H:Nat}(S:Siz wd cs W H)(a:Option Addr)(cap:Nat)(w:World)(h:zak w a cs)(M k bl bf:Nat)(hkM:k<M)(hM:M<=20)(hs:inS wd cs (k:Int)=true)(arrL arrF:Array Value)(hL0:w.heap[bl]?=some (.cells arrL 3))(hF0:w.heap[bf]?=some (.cells arrF 25))(hLs:arrL.size=M)(hFs:arrF.size=M)(hlf:bl≠bf)(hca:∀ b off,a=some ⟨b,off,none⟩->b≠bl/\b≠bf) :
  Calls (SqG.prog aLt) 62 #[.agg #[.int .i64 wd,.slice a cs.length cap,.slice (some ⟨bl,0,none⟩) M M,.slice (some ⟨bf,0,none⟩) M M],.int .i64 (k:Int)] w fun e w'=>e=.returned (.agg #[.int .i64 wd,.slice a cs.length cap,.slice (some ⟨bl,0,none⟩) M M,.slice (some ⟨bf,0,none⟩) M M])/\∃ v,zb7 w' w.heap.size v (zaL wd cs (k:Int))/\w'.heap[bl]?=some (.cells (arrL.setIfInBounds k (.int .i64 (za3 wd cs (k:Int)))) 3)/\w'.heap[bf]?=some (.cells (arrF.setIfInBounds k v) 25)/\(∀ b,b<w.heap.size->b≠bl->b≠bf->w'.heap[b]?=w.heap[b]?)/\w.heap.size<=w'.heap.size/\w'.os=w.os/\w'.tape=w.tape/\w'.output=w.output:=by
 have hn:cs.length<=25:=by rw[S.el];exact Nat.le_trans (Nat.mul_le_mul S.hW.2 S.hH.2) (by omega)
 obtain⟨L,hL⟩:∃ L,zaU wd cs (k:Int)=L:=⟨_,rfl⟩
 have hT:=zh2 hs
 rw[hL] at hT
 obtain⟨hPv,hln,_,_⟩:=zeV hL
 have HP:Hid (∀ u∈L.2,zh7 cs u):=fun u hu=>zjP S.ok (hT.ends u hu)
 have HSM:Hid (zeq L.2<=64):=by show _<=_;rw[hT.sum];omega
 obtain⟨R,hR⟩:∃ R,za3 wd cs (k:Int)=R:=⟨_,rfl⟩
 have ER:Hid (zdw cs L.2=R):=by show _=_;rw[<- hR];unfold za3;rw[hL]
 have EF:Hid (zaL wd cs (k:Int)=zaM cs.length L.1):=by show _=_;unfold zaL;rw[hL]
 have EL:Hid (zaU wd cs (k:Int)=L):=hL
 have HSS:Hid (inS wd cs (k:Int)=true):=hs
 have hlw:=(gei hL0).1
 have hfw:=(gei hF0).1
 have HL0:Hid (w.heap[bl]?=some (.cells arrL 3)):=hL0
 have HF0:Hid (w.heap[bf]?=some (.cells arrF 25)):=hF0
 rw[hR,EF.out]
 clear hR hL hT hs hL0 hF0
 have hbA:Below w.heap.size w ((w.alloc (.cells #[.int .i64 wd,.slice a cs.length cap,.slice (some ⟨bl,0,none⟩) M M,.slice (some ⟨bf,0,none⟩) M M] 35)).alloc (.cells #[.int .i64 0,.slice none 0 0,.slice none 0 0,.slice none 0 0] 35)):=bel
 go_enter SqG.func62,Tryz.ntmps62
 go_wp2_with fail
 refine(znO S a cap _ (h.below hbA) (k:Int) HSS.out).mono ?_
 rintro e x1 ⟨pb,v1,e1,rfl,hW1,hb1⟩
 rw[EL.out] at hW1
 have hB1:=zaj hbA hbA.size hb1
 have hz1:=hb1.size
 simp at hz1
 obtain⟨a2,c2,rfl,hR2⟩:=zc4 hW1.ov
 obtain⟨a3,c3,rfl,hR3⟩:=zc4 hW1.oe
 have p2:=hW1.c2
 have p3:=hW1.c3
 have hpb:=hW1.hB
 simp at hpb
 have g0:x1.cell? ⟨w.heap.size,0,none⟩=some (.int .i64 wd):=zab hb1 (by simp[go_sem])
 have g1:x1.cell? ⟨w.heap.size,1,none⟩=some (.slice a cs.length cap):=zab hb1 (by simp[go_sem])
 have g2:x1.cell? ⟨w.heap.size,2,none⟩=some (.slice (some ⟨bl,0,none⟩) M M):=zab hb1 (by simp[go_sem])
 have g3:x1.cell? ⟨w.heap.size,3,none⟩=some (.slice (some ⟨bf,0,none⟩) M M):=zab hb1 (by simp[go_sem])
 have hC1:=h.below hB1
 have hLx:x1.heap[bl]?=some (.cells arrL 3):=(hB1.block bl hlw).trans HL0.out
 have hFx1:x1.heap[bf]?=some (.cells arrF 25):=(hB1.block bf hfw).trans HF0.out
 have hlx:bl<x1.heap.size:=by omega
 have n0:bl≠w.heap.size:=by omega
 have n1:bl≠pb:=by omega
 have n2:bf≠w.heap.size:=by omega
 have n3:bf≠pb:=by omega
 have hkI:(k:Int)<(M:Int):=by omega
 have hrn:∀ b off,a2=some ⟨b,off,none⟩->w.heap.size<=b:=by
  intro b off e
  subst e
  rcases hW1.ov.2 with ⟨q,_⟩|⟨g,cp,cur,q,hg,_⟩
  ·simp at q
  ·simp only[Value.slice.injEq,Option.some.injEq,Addr.mk.injEq] at q
   simp at hg
   omega
 have hS1:x1.heap[w.heap.size+1]?=some (.cells #[.int .i64 0,.slice none 0 0,.slice none 0 0,.slice none 0 0] 35):=by
  rw[hb1.block _ (by simp)]
  have:=heap_alloc_new (w.alloc (.cells #[.int .i64 wd,.slice a cs.length cap,.slice (some ⟨bl,0,none⟩) M M,.slice (some ⟨bf,0,none⟩) M M] 35)) (.cells #[.int .i64 0,.slice none 0 0,.slice none 0 0,.slice none 0 0] 35)
  simpa using this
 clear hW1 hb1
 go_wp2
 refine wp_region_held_drew (S:=(fun w'=>(w'.cell? ⟨w.heap.size,0,none⟩=some (.int .i64 wd)/\w'.cell? ⟨w.heap.size,1,none⟩=some (.slice a cs.length cap)/\w'.cell? ⟨w.heap.size,2,none⟩=some (.slice (some ⟨bl,0,none⟩) M M)/\w'.cell? ⟨w.heap.size,3,none⟩=some (.slice (some ⟨bf,0,none⟩) M M))/\w'.cell? ⟨pb,2,none⟩=some (.slice a2 L.1.length c2)/\w'.cell? ⟨pb,3,none⟩=some (.slice a3 L.2.length c3))) (by kernel_rfl) ?_ (fun hHeld=>?_)
 ·exact⟨⟨g0,g1,g2,g3⟩,p2,p3⟩
 refine wpAnyH_take (i:=0) (oi:={ dst:=some 10,op:=.fieldAddr 35 (.tmp 2) 1,type:=0,pos:= "l13_scene.go:8",after:=#[],guard:=none }) (v:=?vp0) rfl (by kernel_rfl) (by kernel_rfl) (by kernel_rfl) (fun _ _ _ h=>h) (Or.inl ⟨by rfl,?hyp0⟩) (by assumption) ?restp0
 case hyp0=>(intro w hSw;(try dsimp only at hSw);go_simp;try (with_reducible rfl))
 (try simp only[Act.put,List.setIfInBounds_toArray,List.set_cons_zero,List.set_cons_succ])
 refine wpAnyH_take (i:=1) (oi:={ dst:=some 11,op:=.load 25 (.tmp 10),type:=25,pos:= "l13_scene.go:8",after:=#[{ on:=0,ground:=.data }],guard:=none }) (v:=?vp1) rfl (by kernel_rfl) (by kernel_rfl) (by kernel_rfl) (fun _ _ _ h=>h) (Or.inl ⟨by rfl,?hyp1⟩) (by assumption) ?restp1
 case hyp1=>(intro w hSw;(try dsimp only at hSw);go_simp;try (with_reducible rfl))
 (try simp only[Act.put,List.setIfInBounds_toArray,List.set_cons_zero,List.set_cons_succ])
 refine wpAnyH_take (i:=2) (oi:={ dst:=some 12,op:=.move (.tmp 1),type:=3,pos:= "l13_scene.go:8",after:=#[],guard:=none }) (v:=?vp2) rfl (by kernel_rfl) (by kernel_rfl) (by kernel_rfl) (fun _ _ _ h=>h) (Or.inl ⟨by rfl,?hyp2⟩) (by assumption) ?restp2
 case hyp2=>(intro w hSw;(try dsimp only at hSw);go_simp;try (with_reducible rfl))
 (try simp only[Act.put,List.setIfInBounds_toArray,List.set_cons_zero,List.set_cons_succ])
 refine wpAnyH_take (i:=3) (oi:={ dst:=some 13,op:=.fieldAddr 35 (.tmp 2) 0,type:=0,pos:= "l13_scene.go:8",after:=#[],guard:=none }) (v:=?vp3) rfl (by kernel_rfl) (by kernel_rfl) (by kernel_rfl) (fun _ _ _ h=>h) (Or.inl ⟨by rfl,?hyp3⟩) (by assumption) ?restp3
 case hyp3=>(intro w hSw;(try dsimp only at hSw);go_simp;try (with_reducible rfl))
 (try simp only[Act.put,List.setIfInBounds_toArray,List.set_cons_zero,List.set_cons_succ])
 refine wpAnyH_take (i:=4) (oi:={ dst:=some 14,op:=.load 33 (.tmp 13),type:=33,pos:= "l13_scene.go:8",after:=#[{ on:=3,ground:=.data }],guard:=none }) (v:=?vp4) rfl (by kernel_rfl) (by kernel_rfl) (by kernel_rfl) (fun _ _ _ h=>h) (Or.inl ⟨by rfl,?hyp4⟩) (by assumption) ?restp4
 case hyp4=>(intro w hSw;(try dsimp only at hSw);go_simp;try (with_reducible rfl))
 (try simp only[Act.put,List.setIfInBounds_toArray,List.set_cons_zero,List.set_cons_succ])
 refine wpAnyH_take (i:=5) (oi:={ dst:=some 15,op:=.move (.tmp 5),type:=105,pos:= "l13_scene.go:8",after:=#[],guard:=none }) (v:=?vp5) rfl (by kernel_rfl) (by kernel_rfl) (by kernel_rfl) (fun _ _ _ h=>h) (Or.inl ⟨by rfl,?hyp5⟩) (by assumption) ?restp5
 case hyp5=>(intro w hSw;(try dsimp only at hSw);go_simp;try (with_reducible rfl))
 (try simp only[Act.put,List.setIfInBounds_toArray,List.set_cons_zero,List.set_cons_succ])
 refine wpAnyH_take (i:=6) (oi:={ dst:=some 16,op:=.nilCheck (.tmp 15),type:=0,pos:= "l13_scene.go:8",after:=#[{ on:=5,ground:=.data }],guard:=none }) (v:=?vp6) rfl (by kernel_rfl) (by kernel_rfl) (by kernel_rfl) (fun _ _ _ h=>h) (Or.inl ⟨by rfl,?hyp6⟩) (by assumption) ?restp6
 case hyp6=>(intro w hSw;(try dsimp only at hSw);go_simp;try (with_reducible rfl))
 (try simp only[Act.put,List.setIfInBounds_toArray,List.set_cons_zero,List.set_cons_succ])
 refine wpAnyH_take (i:=7) (oi:={ dst:=some 17,op:=.fieldAddr 111 (.tmp 16) 2,type:=0,pos:= "l13_scene.go:8",after:=#[{ on:=6,ground:=.data }],guard:=none }) (v:=?vp7) rfl (by kernel_rfl) (by kernel_rfl) (by kernel_rfl) (fun _ _ _ h=>h) (Or.inl ⟨by rfl,?hyp7⟩) (by assumption) ?restp7
 case hyp7=>(intro w hSw;(try dsimp only at hSw);go_simp;try (with_reducible rfl))
 (try simp only[Act.put,List.setIfInBounds_toArray,List.set_cons_zero,List.set_cons_succ])
 refine wpAnyH_take (i:=8) (oi:={ dst:=some 18,op:=.load 109 (.tmp 17),type:=109,pos:= "l13_scene.go:8",after:=#[{ on:=7,ground:=.data }],guard:=none }) (v:=?vp8) rfl (by kernel_rfl) (by kernel_rfl) (by kernel_rfl) (fun _ _ _ h=>h) (Or.inl ⟨by rfl,?hyp8⟩) (by assumption) ?restp8
 case hyp8=>(intro w hSw;(try dsimp only at hSw);go_simp;try (with_reducible rfl))
 (try simp only[Act.put,List.setIfInBounds_toArray,List.set_cons_zero,List.set_cons_succ])
 refine wpAnyH_ready (rs:=[9]) (by kernel_rfl) (by simp) ?_
 refine AllReadyH.cons (o:={ dst:=some 19,op:=.call { callee:=.value (.func 76),args:=#[.tmp 14,.tmp 18],argTypes:=#[33,109] },type:=3,pos:= "l13_scene.go:8",after:=#[{ on:=4,ground:=.data },{ on:=8,ground:=.data }],guard:=none }) rfl (fun K hK=>?_) AllReadyH.nil
 go_simp
 (go_at_call 76;refine(zix wd a cap cs _ (hC1.below (Below.refl _ _).drew) (by omega) a3 c3 L.2 (hR3.below (Below.refl _ _).drew) HP.out HSM.out).mono ?_;rintro e x2 ⟨rfl,hb2'⟩;rw[ER.out];have hb2:Below x1.heap.size x1 x2:=zbZ hb2';have g0:=zab hb2 g0;have g1:=zab hb2 g1;have g2:=zab hb2 g2;have g3:=zab hb2 g3;have p2:=zab hb2 p2;have p3:=zab hb2 p3;have hL2:x2.heap[bl]?=some (.cells arrL 3):=(hb2.block bl hlx).trans hLx;have cl:x2.cell? ⟨bl,k,none⟩=some arrL[k]:=(by rw[cell_of_row _ _ _ _ _ _ hL2];exact Array.getElem?_eq_getElem (by omega));have fl:x2.frozen? ⟨bl,k,none⟩=false:=frozen_of_row _ _ _ _ _ hL2)
 (try go_wp2_with fail)
 refine hK.out _ _ ?_ (fun hHeld=>?_)
 ·exact⟨⟨g0,g1,g2,g3⟩,p2,p3⟩
 clear hK K
 (try simp only[Act.put,List.setIfInBounds_toArray,List.set_cons_zero,List.set_cons_succ])
 refine wpAnyH_take (i:=10) (oi:={ dst:=some 20,op:=.indexAddr 25 (.tmp 11) (.tmp 12),type:=0,pos:= "l13_scene.go:8",after:=#[{ on:=1,ground:=.data },{ on:=2,ground:=.data },{ on:=0,ground:=.phase },{ on:=1,ground:=.phase },{ on:=2,ground:=.phase },{ on:=3,ground:=.phase },{ on:=4,ground:=.phase },{ on:=5,ground:=.phase },{ on:=6,ground:=.phase },{ on:=7,ground:=.phase },{ on:=8,ground:=.phase },{ on:=9,ground:=.phase }],guard:=none }) (v:=?vp10) rfl (by kernel_rfl) (by kernel_rfl) (by kernel_rfl) (fun _ _ _ h=>h) (Or.inl ⟨by rfl,?hyp10⟩) (by assumption) ?restp10
 case hyp10=>(intro w hSw;(try dsimp only at hSw);go_simp;try (with_reducible rfl))
 (try simp only[Act.put,List.setIfInBounds_toArray,List.set_cons_zero,List.set_cons_succ])
 refine wpAnyH_ready (rs:=[11]) (by kernel_rfl) (by simp) ?_
 refine AllReadyH.cons (o:={ dst:=none,op:=.store 3 (.tmp 20) (.tmp 19),type:=0,pos:= "l13_scene.go:8",after:=#[{ on:=10,ground:=.data },{ on:=9,ground:=.data },{ on:=9,ground:=.chain },{ on:=0,ground:=.phase },{ on:=1,ground:=.phase },{ on:=2,ground:=.phase },{ on:=3,ground:=.phase },{ on:=4,ground:=.phase },{ on:=5,ground:=.phase },{ on:=6,ground:=.phase },{ on:=7,ground:=.phase },{ on:=8,ground:=.phase },{ on:=9,ground:=.phase }],guard:=none }) rfl (fun K hK=>?_) AllReadyH.nil
 go_simp
 refine hK.out _ _ ?_ (fun hHeld=>?_)
 ·exact⟨⟨zb8 n0 g0,zb8 n0 g1,zb8 n0 g2,zb8 n0 g3⟩,zb8 n1 p2,zb8 n1 p3⟩
 clear hK K
 (try simp only[Act.put,List.setIfInBounds_toArray,List.set_cons_zero,List.set_cons_succ])
 refine wpAnyH_done (by kernel_rfl) ?_ _
 obtain⟨x3,hx3⟩:∃ x3,x3=x2.setCell ⟨bl,k,none⟩ (.int .i64 R):=⟨_,rfl⟩
 have hz2:=hb2.size
 have hz3:x3.heap.size=x2.heap.size:=by rw[hx3];simp
 have hk3:∀ b,b<x1.heap.size->b≠bl->x3.heap[b]?=x1.heap[b]?:=fun b hb hne=>by rw[hx3];exact(Below.heap_setCell _ _ _ _ hne).trans (hb2.block b hb)
 have hL3:x3.heap[bl]?=some (.cells (arrL.setIfInBounds k (.int .i64 R)) 3):=by rw[hx3];exact heap_setCell_same x2 bl k _ _ _ hL2
 have hFx:x3.heap[bf]?=some (.cells arrF 25):=(hk3 bf (by omega) (Ne.symm hlf)).trans hFx1
 have hfx:bf<x3.heap.size:=by omega
 have hS3:=(hk3 (w.heap.size+1) (by omega) (by omega)).trans hS1
 have ho3:x3.os=w.os/\x3.tape=w.tape/\x3.output=w.output:=by rw[hx3];exact⟨hb2.os.trans hB1.os,hb2.tape.trans hB1.tape,hb2.output.trans hB1.output⟩
 have g0:x3.cell? ⟨w.heap.size,0,none⟩=some (.int .i64 wd):=by rw[hx3];exact zb8 n0 g0
 have g1:x3.cell? ⟨w.heap.size,1,none⟩=some (.slice a cs.length cap):=by rw[hx3];exact zb8 n0 g1
 have g2:x3.cell? ⟨w.heap.size,2,none⟩=some (.slice (some ⟨bl,0,none⟩) M M):=by rw[hx3];exact zb8 n0 g2
 have g3:x3.cell? ⟨w.heap.size,3,none⟩=some (.slice (some ⟨bf,0,none⟩) M M):=by rw[hx3];exact zb8 n0 g3
 have p2:x3.cell? ⟨pb,2,none⟩=some (.slice a2 L.1.length c2):=by rw[hx3];exact zb8 n1 p2
 have p3:x3.cell? ⟨pb,3,none⟩=some (.slice a3 L.2.length c3):=by rw[hx3];exact zb8 n1 p3
 have hR2:zpb x3 a2 L.1:=by
  rcases hR2 with q|⟨b,off,e,hbl',hc⟩
  ·exact Or.inl q
  ·have hne:=hrn b off e
   refine Or.inr ⟨b,off,e,by omega,fun i hi=>?_⟩
   have hk:=hk3 b hbl' (by omega)
   exact⟨by rw[World.cell?_of_block (w:=x1) hk];exact(hc i hi).1,by rw[World.cell?_of_block (w:=x1) hk];exact(hc i hi).2.1,by rw[World.cell?_of_block (w:=x1) hk];exact(hc i hi).2.2⟩
 rw[<- hx3]
 clear hx3 hL2 hLx hFx1 hb2 hC1 hR3 hS1 hHeld cl fl
 go_wp2_with fail
 refine wp_region_held_drew (S:=(fun w'=>(w'.cell? ⟨w.heap.size,0,none⟩=some (.int .i64 wd)/\w'.cell? ⟨w.heap.size,1,none⟩=some (.slice a cs.length cap)/\w'.cell? ⟨w.heap.size,2,none⟩=some (.slice (some ⟨bl,0,none⟩) M M)/\w'.cell? ⟨w.heap.size,3,none⟩=some (.slice (some ⟨bf,0,none⟩) M M))/\w'.cell? ⟨pb,2,none⟩=some (.slice a2 L.1.length c2)/\w'.cell? ⟨pb,3,none⟩=some (.slice a3 L.2.length c3))) (by kernel_rfl) ?_ (fun hHeld=>?_)
 ·exact⟨⟨g0,g1,g2,g3⟩,p2,p3⟩
 refine wpAnyH_take (i:=0) (oi:={ dst:=some 21,op:=.fieldAddr 35 (.tmp 2) 2,type:=0,pos:= "l13_scene.go:9",after:=#[],guard:=none }) (v:=?vq0) rfl (by kernel_rfl) (by kernel_rfl) (by kernel_rfl) (fun _ _ _ h=>h) (Or.inl ⟨by rfl,?hyq0⟩) (by assumption) ?restq0
 case hyq0=>(intro w hSw;(try dsimp only at hSw);go_simp;try (with_reducible rfl))
 (try simp only[Act.put,List.setIfInBounds_toArray,List.set_cons_zero,List.set_cons_succ])
 refine wpAnyH_take (i:=1) (oi:={ dst:=some 22,op:=.load 26 (.tmp 21),type:=26,pos:= "l13_scene.go:9",after:=#[{ on:=0,ground:=.data }],guard:=none }) (v:=?vq1) rfl (by kernel_rfl) (by kernel_rfl) (by kernel_rfl) (fun _ _ _ h=>h) (Or.inl ⟨by rfl,?hyq1⟩) (by assumption) ?restq1
 case hyq1=>(intro w hSw;(try dsimp only at hSw);go_simp;try (with_reducible rfl))
 (try simp only[Act.put,List.setIfInBounds_toArray,List.set_cons_zero,List.set_cons_succ])
 refine wpAnyH_take (i:=2) (oi:={ dst:=some 23,op:=.move (.tmp 1),type:=3,pos:= "l13_scene.go:9",after:=#[],guard:=none }) (v:=?vq2) rfl (by kernel_rfl) (by kernel_rfl) (by kernel_rfl) (fun _ _ _ h=>h) (Or.inl ⟨by rfl,?hyq2⟩) (by assumption) ?restq2
 case hyq2=>(intro w hSw;(try dsimp only at hSw);go_simp;try (with_reducible rfl))
 (try simp only[Act.put,List.setIfInBounds_toArray,List.set_cons_zero,List.set_cons_succ])
 refine wpAnyH_take (i:=3) (oi:={ dst:=some 24,op:=.fieldAddr 35 (.tmp 2) 0,type:=0,pos:= "l13_scene.go:9",after:=#[],guard:=none }) (v:=?vq3) rfl (by kernel_rfl) (by kernel_rfl) (by kernel_rfl) (fun _ _ _ h=>h) (Or.inl ⟨by rfl,?hyq3⟩) (by assumption) ?restq3
 case hyq3=>(intro w hSw;(try dsimp only at hSw);go_simp;try (with_reducible rfl))
 (try simp only[Act.put,List.setIfInBounds_toArray,List.set_cons_zero,List.set_cons_succ])
 refine wpAnyH_take (i:=4) (oi:={ dst:=some 25,op:=.load 33 (.tmp 24),type:=33,pos:= "l13_scene.go:9",after:=#[{ on:=3,ground:=.data }],guard:=none }) (v:=?vq4) rfl (by kernel_rfl) (by kernel_rfl) (by kernel_rfl) (fun _ _ _ h=>h) (Or.inl ⟨by rfl,?hyq4⟩) (by assumption) ?restq4
 case hyq4=>(intro w hSw;(try dsimp only at hSw);go_simp;try (with_reducible rfl))
 (try simp only[Act.put,List.setIfInBounds_toArray,List.set_cons_zero,List.set_cons_succ])
 refine wpAnyH_take (i:=5) (oi:={ dst:=some 26,op:=.move (.tmp 5),type:=105,pos:= "l13_scene.go:9",after:=#[],guard:=none }) (v:=?vq5) rfl (by kernel_rfl) (by kernel_rfl) (by kernel_rfl) (fun _ _ _ h=>h) (Or.inl ⟨by rfl,?hyq5⟩) (by assumption) ?restq5
 case hyq5=>(intro w hSw;(try dsimp only at hSw);go_simp;try (with_reducible rfl))
 (try simp only[Act.put,List.setIfInBounds_toArray,List.set_cons_zero,List.set_cons_succ])
 refine wpAnyH_take (i:=6) (oi:={ dst:=some 27,op:=.nilCheck (.tmp 26),type:=0,pos:= "l13_scene.go:9",after:=#[{ on:=5,ground:=.data }],guard:=none }) (v:=?vq6) rfl (by kernel_rfl) (by kernel_rfl) (by kernel_rfl) (fun _ _ _ h=>h) (Or.inl ⟨by rfl,?hyq6⟩) (by assumption) ?restq6
 case hyq6=>(intro w hSw;(try dsimp only at hSw);go_simp;try (with_reducible rfl))
 (try simp only[Act.put,List.setIfInBounds_toArray,List.set_cons_zero,List.set_cons_succ])
 refine wpAnyH_take (i:=7) (oi:={ dst:=some 28,op:=.fieldAddr 111 (.tmp 27) 1,type:=0,pos:= "l13_scene.go:9",after:=#[{ on:=6,ground:=.data }],guard:=none }) (v:=?vq7) rfl (by kernel_rfl) (by kernel_rfl) (by kernel_rfl) (fun _ _ _ h=>h) (Or.inl ⟨by rfl,?hyq7⟩) (by assumption) ?restq7
 case hyq7=>(intro w hSw;(try dsimp only at hSw);go_simp;try (with_reducible rfl))
 (try simp only[Act.put,List.setIfInBounds_toArray,List.set_cons_zero,List.set_cons_succ])
 refine wpAnyH_take (i:=8) (oi:={ dst:=some 29,op:=.load 108 (.tmp 28),type:=108,pos:= "l13_scene.go:9",after:=#[{ on:=7,ground:=.data }],guard:=none }) (v:=?vq8) rfl (by kernel_rfl) (by kernel_rfl) (by kernel_rfl) (fun _ _ _ h=>h) (Or.inl ⟨by rfl,?hyq8⟩) (by assumption) ?restq8
 case hyq8=>(intro w hSw;(try dsimp only at hSw);go_simp;try (with_reducible rfl))
 (try simp only[Act.put,List.setIfInBounds_toArray,List.set_cons_zero,List.set_cons_succ])
 refine wpAnyH_ready (rs:=[9]) (by kernel_rfl) (by simp) ?_
 refine AllReadyH.cons (o:={ dst:=some 30,op:=.call { callee:=.value (.func 77),args:=#[.tmp 25,.tmp 29],argTypes:=#[33,108] },type:=25,pos:= "l13_scene.go:9",after:=#[{ on:=4,ground:=.data },{ on:=8,ground:=.data }],guard:=none }) rfl (fun K hK=>?_) AllReadyH.nil
 go_simp
 (go_at_call 77;refine(zjO wd a cap cs _ (by omega) a2 c2 L.1 (hR2.below (Below.refl _ _).drew) hPv (by omega)).mono ?_;rintro e x4 ⟨v4,rfl,hO4,hb4'⟩;have hb4:Below x3.heap.size x3 x4:=zbZ hb4';obtain⟨xa,xc,rfl⟩:=zn6 hO4;have g0:=zab hb4 g0;have g1:=zab hb4 g1;have g2:=zab hb4 g2;have g3:=zab hb4 g3;have p2:=zab hb4 p2;have p3:=zab hb4 p3;have hF4:x4.heap[bf]?=some (.cells arrF 25):=(hb4.block bf hfx).trans hFx;have cf:x4.cell? ⟨bf,k,none⟩=some arrF[k]:=(by rw[cell_of_row _ _ _ _ _ _ hF4];exact Array.getElem?_eq_getElem (by omega));have ff:x4.frozen? ⟨bf,k,none⟩=false:=frozen_of_row _ _ _ _ _ hF4)
 (try go_wp2_with fail)
 refine hK.out _ _ ?_ (fun hHeld=>?_)
 ·exact⟨⟨g0,g1,g2,g3⟩,p2,p3⟩
 clear hK K
 (try simp only[Act.put,List.setIfInBounds_toArray,List.set_cons_zero,List.set_cons_succ])
 refine wpAnyH_take (i:=10) (oi:={ dst:=some 31,op:=.indexAddr 26 (.tmp 22) (.tmp 23),type:=0,pos:= "l13_scene.go:9",after:=#[{ on:=1,ground:=.data },{ on:=2,ground:=.data },{ on:=0,ground:=.phase },{ on:=1,ground:=.phase },{ on:=2,ground:=.phase },{ on:=3,ground:=.phase },{ on:=4,ground:=.phase },{ on:=5,ground:=.phase },{ on:=6,ground:=.phase },{ on:=7,ground:=.phase },{ on:=8,ground:=.phase },{ on:=9,ground:=.phase }],guard:=none }) (v:=?vq10) rfl (by kernel_rfl) (by kernel_rfl) (by kernel_rfl) (fun _ _ _ h=>h) (Or.inl ⟨by rfl,?hyq10⟩) (by assumption) ?restq10
 case hyq10=>(intro w hSw;(try dsimp only at hSw);go_simp;try (with_reducible rfl))
 (try simp only[Act.put,List.setIfInBounds_toArray,List.set_cons_zero,List.set_cons_succ])
 refine wpAnyH_ready (rs:=[11]) (by kernel_rfl) (by simp) ?_
 refine AllReadyH.cons (o:={ dst:=none,op:=.store 25 (.tmp 31) (.tmp 30),type:=0,pos:= "l13_scene.go:9",after:=#[{ on:=10,ground:=.data },{ on:=9,ground:=.data },{ on:=9,ground:=.chain },{ on:=0,ground:=.phase },{ on:=1,ground:=.phase },{ on:=2,ground:=.phase },{ on:=3,ground:=.phase },{ on:=4,ground:=.phase },{ on:=5,ground:=.phase },{ on:=6,ground:=.phase },{ on:=7,ground:=.phase },{ on:=8,ground:=.phase },{ on:=9,ground:=.phase }],guard:=none }) rfl (fun K hK=>?_) AllReadyH.nil
 go_simp
 refine hK.out _ _ ?_ (fun hHeld=>?_)
 ·exact⟨⟨zb8 n2 g0,zb8 n2 g1,zb8 n2 g2,zb8 n2 g3⟩,zb8 n3 p2,zb8 n3 p3⟩
 clear hK K
 (try simp only[Act.put,List.setIfInBounds_toArray,List.set_cons_zero,List.set_cons_succ])
 refine wpAnyH_done (by kernel_rfl) ?_ _
 have hz4:=hb4.size
 have hS4:x4.heap[w.heap.size+1]?=_:=(hb4.block _ (by omega)).trans hS3
 obtain⟨x5,hx5⟩:∃ x5,x5=x4.setCell ⟨bf,k,none⟩ (.slice xa (zaM cs.length L.1).length xc):=⟨_,rfl⟩
 have hz5:x5.heap.size=x4.heap.size:=by rw[hx5];simp
 have hk5:∀ b,b<x3.heap.size->b≠bf->x5.heap[b]?=x3.heap[b]?:=fun b hb hne=>by rw[hx5];exact(Below.heap_setCell _ _ _ _ hne).trans (hb4.block b hb)
 have hL5:x5.heap[bl]?=_:=(hk5 bl (by omega) hlf).trans hL3
 have hF5:x5.heap[bf]?=some (.cells (arrF.setIfInBounds k (.slice xa (zaM cs.length L.1).length xc)) 25):=by rw[hx5];exact heap_setCell_same x4 bf k _ _ _ hF4
 have hS5:x5.heap[w.heap.size+1]?=_:=(hk5 _ (by omega) (by omega)).trans hS3
 have ho5:x5.os=w.os/\x5.tape=w.tape/\x5.output=w.output:=by rw[hx5];exact⟨hb4.os.trans ho3.1,hb4.tape.trans ho3.2.1,hb4.output.trans ho3.2.2⟩
 have hO5:zb7 x5 x3.heap.size (.slice xa (zaM cs.length L.1).length xc) (zaM cs.length L.1):=by
  obtain⟨r1,r2⟩:=hO4
  refine⟨r1,?_⟩
  rcases r2 with r2|⟨g,cp,cur,s1,s2,s3,s4⟩
  ·exact .inl r2
  ·exact .inr ⟨g,cp,cur,s1,s2,by rw[hx5];exact(Below.heap_setCell _ _ _ _ (by show g≠bf;simp at s2;omega)).trans s3,s4⟩
 have g0:x5.cell? ⟨w.heap.size,0,none⟩=some (.int .i64 wd):=by rw[hx5];exact zb8 n2 g0
 have g1:x5.cell? ⟨w.heap.size,1,none⟩=some (.slice a cs.length cap):=by rw[hx5];exact zb8 n2 g1
 have g2:x5.cell? ⟨w.heap.size,2,none⟩=some (.slice (some ⟨bl,0,none⟩) M M):=by rw[hx5];exact zb8 n2 g2
 have g3:x5.cell? ⟨w.heap.size,3,none⟩=some (.slice (some ⟨bf,0,none⟩) M M):=by rw[hx5];exact zb8 n2 g3
 have r0:x5.cell? ⟨w.heap.size+1,0,none⟩=some (.int .i64 0):=(cell_of_row _ _ 0 _ _ _ hS5).trans rfl
 have r1:x5.cell? ⟨w.heap.size+1,1,none⟩=some (.slice none 0 0):=(cell_of_row _ _ 1 _ _ _ hS5).trans rfl
 have r2:x5.cell? ⟨w.heap.size+1,2,none⟩=some (.slice none 0 0):=(cell_of_row _ _ 2 _ _ _ hS5).trans rfl
 have r3:x5.cell? ⟨w.heap.size+1,3,none⟩=some (.slice none 0 0):=(cell_of_row _ _ 3 _ _ _ hS5).trans rfl
 have f0:=frozen_of_row _ _ 0 _ _ hS5
 have f1:=frozen_of_row _ _ 1 _ _ hS5
 have f2:=frozen_of_row _ _ 2 _ _ hS5
 have f3:=frozen_of_row _ _ 3 _ _ hS5
 rw[<- hx5]
 clear hx5 hF4 hb4 hL3 hFx hR2 hS3 hS4 hHeld cf ff p2 p3
 go_wp2_with fail
 have hk6:∀ b,b≠w.heap.size+1->((((x5.setCell ⟨w.heap.size+1,0,none⟩ (.int .i64 wd)).setCell ⟨w.heap.size+1,1,none⟩ (.slice a cs.length cap)).setCell ⟨w.heap.size+1,2,none⟩ (.slice (some ⟨bl,0,none⟩) M M)).setCell ⟨w.heap.size+1,3,none⟩ (.slice (some ⟨bf,0,none⟩) M M)).heap[b]?=x5.heap[b]?:=fun b hne=>(((Below.heap_setCell _ _ _ _ hne).trans (Below.heap_setCell _ _ _ _ hne)).trans (Below.heap_setCell _ _ _ _ hne)).trans (Below.heap_setCell _ _ _ _ hne)
 refine bodyPost_ret (v:=.agg #[.int .i64 wd,.slice a cs.length cap,.slice (some ⟨bl,0,none⟩) M M,.slice (some ⟨bf,0,none⟩) M M]) (by simp[results,Tryz.results62,go_sem,r0,r1,r2,r3]) rfl ⟨rfl,.slice xa (zaM cs.length L.1).length xc,?_,(hk6 bl (by omega)).trans hL5,(hk6 bf (by omega)).trans hF5,fun b hb q1 q2=>?_,by simp;omega,ho5.1,ho5.2.1,ho5.2.2⟩
 ·obtain⟨s1,s2⟩:=hO5
  refine⟨s1,?_⟩
  rcases s2 with s2|⟨g,cp,cur,z1,z2,z3,z4⟩
  ·exact .inl s2
  ·exact .inr ⟨g,cp,cur,z1,by omega,(hk6 g (by omega)).trans z3,z4⟩
 ·exact(((hk6 b (by omega)).trans (hk5 b (by omega) q2)).trans (hk3 b (by omega) q1)).trans (hB1.block b hb)
