/- Part. -/
import Derived.Test.YthfhlgdeghnggaaGreatMAw
set_option maxHeartbeats 8000000
set_option maxRecDepth 100000
set_option linter.unusedVariables false
namespace Go.Proofs.YthfhlgdeghnggaaGreat
variable{wd:Int}{es:List (Int × Int × Int)}{fs:List (List Int)}{ls:List Int}{cs:Lp}{a:Option Addr}
open _root_.Go.Proofs.Tryz
namespace Sp
open Go.RowKit
attribute [local go_sem ↓] Go.wp_at_zero Go.wp_at_succ
theorem zox{k:Nat}(hk:okG wd cs=true)(h:k<zbB wd cs):0<(zay wd cs (k:Int)).length:=by
 obtain⟨_,_,_,h0⟩:=zdj hk
 obtain⟨W,H,S⟩:=zc2 hk
 have hs:inS wd cs (k:Int)=true:=by unfold inS;rw[h0];exact decide_eq_true qg
 have h2:k<2 * (W+H):=by have:=S.em;omega
 obtain⟨x,d,hx⟩:∃ x d,zdH (W:Int) (H:Int) (k:Int)=(x,d):=⟨_,_,rfl⟩
 have hr:zbR wd cs (k:Int)=(x,d,true):=by rw[zdB S k h2,hx]
 have hm:(x,d,(64:Int))∈(zaN wd cs (k:Int)).1:=by
  unfold zaN
  rw[if_pos hs,hr]
  show (x,d,(64:Int))∈(za6 ([(x,d,((64:Nat):Int))],[]) (zbe wd cs (zaG wd cs 706) x d 64)).1
  simp[za6]
 obtain⟨h1,_⟩:=zdx (rfl:zaN wd cs (k:Int)=_)
 have hx:=h1 _ hm
 simp only at hx
 refine List.length_pos_iff.2 (List.ne_nil_of_mem (a:=x) ?_)
 unfold zay zaI
 simp only[List.mem_map,List.mem_filter,List.mem_range]
 refine⟨x.toNat,⟨qg,?_⟩,qg⟩
 unfold seenAt
 simp only[List.any_eq_true,beq_iff_eq]
 exact⟨_,hm,by show x=_;omega⟩
theorem zo3(h:okG wd cs=true)(X:Nat){k l:Int}(hc:okC k l=true):okG wd (cs.set X (k,l))=true:=by
 unfold okG at h ⊢
 simp only[Bool.and_eq_true,List.all_eq_true,List.length_set] at h ⊢
 refine⟨h.1,fun c hm=>?_⟩
 rcases List.mem_or_eq_of_mem_set hm with q|rfl
 ·exact h.2 c q
 ·exact hc
theorem zog{n:Nat}(h:ziv n es=true){i:Nat}(hi:i<es.length):(0<=(es.getD i (0,0,0)).1/\(es.getD i (0,0,0)).1<(n:Int))/\okC (es.getD i (0,0,0)).2.1 (es.getD i (0,0,0)).2.2=true:=by
 unfold ziv at h
 rw[List.all_eq_true] at h
 have:=h (es.getD i (0,0,0)) (by simp only[List.getD,List.getElem?_eq_getElem hi,Option.getD_some];exact List.getElem_mem hi)
 simp only[Bool.and_eq_true,inP,decide_eq_true_eq] at this
 exact this
theorem zpg{wd:Int}{cs:Lp}{es:List (Int × Int × Int)}(h:okG wd cs=true)(he:ziv cs.length es=true):∀ i,i<=es.length->okG wd (zck cs es i)=true
 | 0,_=>h
 | i+1,hi=>zo3 (zpg h he i qg) _ (zog he (i:=i) qg).2
theorem zoU{cs':Lp}(h:okG wd cs=true)(h':okG wd cs'=true)(hl:cs'.length=cs.length):zbB wd cs'=zbB wd cs:=by
 unfold zbB zbS
 rw[if_pos h,if_pos h',hl]
def zb4(wd:Int)(cs:Lp)(ls:List Int)(fs:List (List Int))(es:List (Int × Int × Int)):Bool:=zif wd cs ls fs && (decide (es.length<=20) && ziv cs.length es)
def sM(fs:List (List Int))(es:List (Int × Int × Int)):Nat->Bool:=fun j=>zeL es (fs.getD j []) es.length
def ztq(w:World)(wd:Int)(cs:Lp)(ls:List Int)(fs:List (List Int))(es:List (Int × Int × Int))(e:Ending)(w':World):Prop :=
 ∃ x v b,e=.returned (.tuple #[x,v,.bool b])/\b=zb4 wd cs ls fs es/\xE w w' /\
  (b=false->x=.agg xF/\zaR w' w.heap.size v []) /\
  (b=true->∃ ga ck bl lk bf fk arrL arrF,x=.agg (xH wd (xA ga) cs.length ck (xA bl) ls.length lk (xA bf) fs.length fk) /\
   ScE w.heap.size w' (zck cs es es.length) fs.length ga ck bl bf arrL arrF (doL wd (zck cs es es.length) (fun j=>ls.getD j 0) (sM fs es) fs.length) (doF wd (zck cs es es.length) (fun j=>fs.getD j []) (sM fs es) fs.length) /\
   zaR w' w.heap.size v (zbg (sM fs es) fs.length)/\(∀ b,v.ownBlock=some b->b≠ga/\b≠bl/\b≠bf)/\∀ j u b,j<fs.length->arrF[j]?=some u->u.ownBlock=some b->v.ownBlock≠some b)
theorem zdO.lt{w:World}(h:zdO w a es){b off:Nat}(e:a=some (O b off))(hl:0<es.length):b<w.heap.size:=by
 obtain⟨b',off',x,k,l,e',_,h1,_⟩:=h.at hl
 rw[e] at e'
 cases e'
 exact World.block_lt_of_cell? _ _ h1
theorem zbY(h:zif wd cs ls fs=true)(h2:es.length<=20)(h3:ziv cs.length es=true) :
  (0<cs.length/\cs.length<=25)/\(0<fs.length/\fs.length<=20)/\ls.length=fs.length/\(∀ k,k<fs.length->0<(fs.getD k []).length/\(fs.getD k []).length<=1000)/\zuw cs.length es/\zhy fs/\okG wd (zck cs es es.length)=true/\zbB wd (zck cs es es.length)=fs.length:=by
 obtain⟨q1,q2,q3⟩:=zig h
 obtain⟨hn,hp,hM,h1⟩:=zdj q1
 obtain⟨W,H,S⟩:=zc2 q1
 have eM:fs.length=zbB wd cs:=by rw[q3,zda]
 have h4:0<zbB wd cs:=by have:=S.em;have:=S.hW;omega
 have h0:=zpg q1 h3 es.length (Nat.le_refl _)
 refine⟨⟨hp,hn⟩,⟨qg,qg⟩,by rw[q2,q3,zks,zda],fun k hk=>?_,⟨qg,fun i hi=>(zog h3 hi).1⟩,by rw[q3];exact zka q1,h0,by rw[eM];exact zoU q1 h0 (zbw _ _ _)⟩
 rw[eM] at hk
 rw[q3,zhN hk]
 exact⟨zox q1 hk,Nat.le_trans (zeQ _ _) qg⟩
theorem zm2(fs:List (List Int)):zeW fs.length (fun j=>fs.getD j [])=fs:=by
 unfold zeW
 refine List.ext_getElem qm fun i h1 h2=>?_
 simp[List.getD,h2]
theorem zjA(wd:Int)(g l f a:Option Addr)(gc lc fc ac:Nat)(cs:Lp)(ls:List Int)(fs:List (List Int))(es:List (Int × Int × Int))(w:World)(hM:ScM w g l f cs ls fs)(hS:zdV cs ls fs)(hE:zdO w a es)(hn:es.length<=1048576) :
  Calls SqP.prog 20 #[.agg (xH wd g cs.length gc l ls.length lc f fs.length fc),.slice a es.length ac] w (ztq w wd cs ls fs es):=by
 obtain⟨w2,hg⟩:∃ w2,w2=(w.alloc (.cells (xH wd g cs.length gc l ls.length lc f fs.length fc) 35)).alloc (.cells xF 35):=⟨_,rfl⟩
 obtain⟨x1,x2,hk⟩:=zbH (.cells (xH wd g cs.length gc l ls.length lc f fs.length fc) 35) (.cells xF 35) w
 rw[<- hg] at x1 x2 hk
 have p9:w2.heap.size=w.heap.size+2:=by rw[hg];simp
 have hC:=(zl1 wd cs ls fs hS).2 g l f gc lc fc w2 (hM.below hk)
 have HCE:Hid (∀ y,zdO y a es->Calls SqP.prog 42 #[.agg (xG wd g cs.length gc),.slice a es.length ac] y fun e w'=>e=.returned (.bool (decide (es.length<=20) && ziv cs.length es))/\xE y w'):=fun y hy=>zi2 wd g a gc ac cs.length es y hy hS.1 hn
 have HCC:Hid (∀ y,ScM y g l f cs ls fs->zif wd cs ls fs=true->es.length<=20->ziv cs.length es=true->Calls SqP.prog 44 #[.agg (xH wd g cs.length gc l ls.length lc f fs.length fc)] y (zud y wd cs fs.length (fun j=>ls.getD j 0) (fun j=>fs.getD j []))):=fun y hy q1 q2 q3=>by
  obtain⟨k1,k2,k3,k4,_⟩:=zbY q1 q2 q3
  have:=zkq wd g l f gc lc fc cs ls fs fs.length y hy qg qg k3 rfl k4
  rw[k3]
  exact this
 obtain⟨M,he⟩:∃ M,fs.length=M:=⟨_,rfl⟩
 obtain⟨N,h6⟩:∃ N,cs.length=N:=⟨_,rfl⟩
 obtain⟨ML,hf⟩:∃ ML,ls.length=ML:=⟨_,rfl⟩
 obtain⟨E,hw⟩:∃ E,es.length=E:=⟨_,rfl⟩
 obtain⟨b,eb⟩:∃ b,zif wd cs ls fs=b:=⟨_,rfl⟩
 obtain⟨b2,eb2⟩:∃ b2,(decide (es.length<=20) && ziv cs.length es)=b2:=⟨_,rfl⟩
 have HLN:Hid (fs.length=M/\cs.length=N/\ls.length=ML/\es.length=E):=⟨he,h6,hf,hw⟩
 have HB:Hid (zif wd cs ls fs=b/\(decide (es.length<=20) && ziv cs.length es)=b2):=⟨eb,eb2⟩
 have HM:Hid (ScM w g l f cs ls fs/\zdO w a es):=⟨hM,hE⟩
 rw[eb,he,h6,hf] at hC
 rw[eb2,h6,hw] at HCE
 rw[he,h6,hf] at HCC
 rw[he,h6,hf] at hg x1
 rw[he,h6,hf,hw]
 obtain⟨c0,c1,c2,c3⟩:=zaz x1
 have HX1:Hid (w2.heap[w.heap.size]?=some (.cells (xH wd g N gc l ML lc f M fc) 35)):=x1
 have HX2:Hid (w2.heap[w.heap.size+1]?=some (.cells xF 35)):=x2
 clear hM hS hE hn he h6 hf hw eb eb2 x1 x2
 go_enter (zfx func20),ntmps20
 go_upto_region 1 with fail
 rw[<- hg]
 clear hg
 go_wp2_with fail
 refine hC.mono ?_
 rintro e w3 ⟨rfl,h7⟩
 have hB:=zae hk hk.size h7
 replace c0:=zab h7 c0;replace c1:=zab h7 c1;replace c2:=zab h7 c2;replace c3:=zab h7 c3
 have HY2:Hid (w3.heap[w.heap.size+1]?=some (.cells xF 35)):=(h7.block _ qg).trans HX2.o
 clear h7 hC hk HX1 HX2
 rcases b with _|_
 ·clear c0 c1 c2 c3 HCE HCC
  have t0:=thaw HY2.o 0
  have t1:=thaw HY2.o 1
  have t2:=thaw HY2.o 2
  have t3:=thaw HY2.o 3
  obtain⟨q0,q1,q2,q3⟩:=zaz HY2.o
  have hF:=(gei HY2.o).1
  have hY:=hB.size
  have HNB:Hid (∀ y:World,y=((((w3.setCell (xD w 1 0) (J 0)).setCell (xD w 1 1) (.slice none 0 0)).setCell (xD w 1 2) (.slice none 0 0)).setCell (xD w 1 3) (.slice none 0 0)).alloc (.cells #[] 3)->xE w y/\zaR y w.heap.size (.slice (xA w3.heap.size) 0 0) []/\y.heap[w.heap.size+1]?=some (.cells xF 35)):=fun y ey=>by
   have h8:xE w ((((w3.setCell (xD w 1 0) (J 0)).setCell (xD w 1 1) (.slice none 0 0)).setCell (xD w 1 2) (.slice none 0 0)).setCell (xD w 1 3) (.slice none 0 0)):=(((hB.setCell (by show _<=w.heap.size+1;omega) _).setCell (by show _<=w.heap.size+1;omega) _).setCell (by show _<=w.heap.size+1;omega) _).setCell (by show _<=w.heap.size+1;omega) _
   have hp:((((w3.setCell (xD w 1 0) (J 0)).setCell (xD w 1 1) (.slice none 0 0)).setCell (xD w 1 2) (.slice none 0 0)).setCell (xD w 1 3) (.slice none 0 0)).heap.size=w3.heap.size:=qm
   have r4:=heap_setCell_same _ _ 3 _ _ (.slice none 0 0) (heap_setCell_same _ _ 2 _ _ (.slice none 0 0) (heap_setCell_same _ _ 1 _ _ (.slice none 0 0) (heap_setCell_same _ _ 0 _ _ (J 0) HY2.o)))
   obtain⟨z,ez⟩:∃ z,z=((((w3.setCell (xD w 1 0) (J 0)).setCell (xD w 1 1) (.slice none 0 0)).setCell (xD w 1 2) (.slice none 0 0)).setCell (xD w 1 3) (.slice none 0 0)):=⟨_,rfl⟩
   rw[<- ez] at h8 hp ey r4
   subst ey
   refine⟨zae h8 h8.size ((Below.refl _ _).alloc (Nat.le_refl _) _),⟨rfl,Or.inr ⟨w3.heap.size,0,#[],rfl,qg,by rw[<- hp];exact heap_alloc_new z _,Nat.le_refl _,qs,rfl,rfl⟩⟩,?_⟩
   have hG:xE z (z.alloc (.cells #[] 3)):=(Below.refl _ _).alloc (Nat.le_refl _) _
   rw[hG.block _ qg]
   simpa using r4
  clear hB
  go_wp2_with fail
  obtain⟨y,ey⟩:∃ y,y=((((w3.setCell (xD w 1 0) (J 0)).setCell (xD w 1 1) (.slice none 0 0)).setCell (xD w 1 2) (.slice none 0 0)).setCell (xD w 1 3) (.slice none 0 0)).alloc (.cells #[] 3):=⟨_,rfl⟩
  rw[<- ey]
  obtain⟨hJ,hK,hL⟩:=HNB.o y ey
  clear ey q0 q1 q2 q3 t0 t1 t2 t3
  obtain⟨q0,q1,q2,q3⟩:=zaz hL
  refine bodyPost_ret (v:=.tuple #[.agg xF,.slice (xA w3.heap.size) 0 0,.bool false]) (by simp[results,results20,go_sem,q0,q1,q2,q3]) rfl ⟨_,_,false,rfl,by unfold zb4;rw[HB.o.1,HB.o.2];rfl,hJ,fun _=>⟨rfl,hK⟩,fun q=>by cases q⟩
 ·have hQ:=HCE.o w3 (HM.o.2.below hB)
  go_wp2_with fail
  refine hQ.mono ?_
  rintro e w4 ⟨rfl,h9⟩
  have hZ:=(gei HY2.o).1
  have h4:=zae hB hB.size h9
  replace c0:=zab h9 c0;replace c1:=zab h9 c1;replace c2:=zab h9 c2;replace c3:=zab h9 c3
  have HY4:Hid (w4.heap[w.heap.size+1]?=some (.cells xF 35)):=(h9.block _ hZ).trans HY2.o
  clear h9 hQ hB HY2 HCE
  rcases b2 with _|_
  ·clear c0 c1 c2 c3 HCC
   have t0:=thaw HY4.o 0
   have t1:=thaw HY4.o 1
   have t2:=thaw HY4.o 2
   have t3:=thaw HY4.o 3
   obtain⟨q0,q1,q2,q3⟩:=zaz HY4.o
   have hF:=(gei HY4.o).1
   have hY:=h4.size
   have HNB:Hid (∀ y:World,y=((((w4.setCell (xD w 1 0) (J 0)).setCell (xD w 1 1) (.slice none 0 0)).setCell (xD w 1 2) (.slice none 0 0)).setCell (xD w 1 3) (.slice none 0 0)).alloc (.cells #[] 3)->xE w y/\zaR y w.heap.size (.slice (xA w4.heap.size) 0 0) []/\y.heap[w.heap.size+1]?=some (.cells xF 35)):=fun y ey=>by
    have h8:xE w ((((w4.setCell (xD w 1 0) (J 0)).setCell (xD w 1 1) (.slice none 0 0)).setCell (xD w 1 2) (.slice none 0 0)).setCell (xD w 1 3) (.slice none 0 0)):=(((h4.setCell (by show _<=w.heap.size+1;omega) _).setCell (by show _<=w.heap.size+1;omega) _).setCell (by show _<=w.heap.size+1;omega) _).setCell (by show _<=w.heap.size+1;omega) _
    have hp:((((w4.setCell (xD w 1 0) (J 0)).setCell (xD w 1 1) (.slice none 0 0)).setCell (xD w 1 2) (.slice none 0 0)).setCell (xD w 1 3) (.slice none 0 0)).heap.size=w4.heap.size:=qm
    have r4:=heap_setCell_same _ _ 3 _ _ (.slice none 0 0) (heap_setCell_same _ _ 2 _ _ (.slice none 0 0) (heap_setCell_same _ _ 1 _ _ (.slice none 0 0) (heap_setCell_same _ _ 0 _ _ (J 0) HY4.o)))
    obtain⟨z,ez⟩:∃ z,z=((((w4.setCell (xD w 1 0) (J 0)).setCell (xD w 1 1) (.slice none 0 0)).setCell (xD w 1 2) (.slice none 0 0)).setCell (xD w 1 3) (.slice none 0 0)):=⟨_,rfl⟩
    rw[<- ez] at h8 hp ey r4
    subst ey
    refine⟨zae h8 h8.size ((Below.refl _ _).alloc (Nat.le_refl _) _),⟨rfl,Or.inr ⟨w4.heap.size,0,#[],rfl,qg,by rw[<- hp];exact heap_alloc_new z _,Nat.le_refl _,qs,rfl,rfl⟩⟩,?_⟩
    have hG:xE z (z.alloc (.cells #[] 3)):=(Below.refl _ _).alloc (Nat.le_refl _) _
    rw[hG.block _ qg]
    simpa using r4
   clear h4
   go_wp2_with fail
   obtain⟨y,ey⟩:∃ y,y=((((w4.setCell (xD w 1 0) (J 0)).setCell (xD w 1 1) (.slice none 0 0)).setCell (xD w 1 2) (.slice none 0 0)).setCell (xD w 1 3) (.slice none 0 0)).alloc (.cells #[] 3):=⟨_,rfl⟩
   rw[<- ey]
   obtain⟨hJ,hK,hL⟩:=HNB.o y ey
   clear ey q0 q1 q2 q3 t0 t1 t2 t3
   obtain⟨q0,q1,q2,q3⟩:=zaz hL
   refine bodyPost_ret (v:=.tuple #[.agg xF,.slice (xA w4.heap.size) 0 0,.bool false]) (by simp[results,results20,go_sem,q0,q1,q2,q3]) rfl ⟨_,_,false,rfl,by unfold zb4;rw[HB.o.1,HB.o.2];rfl,hJ,fun _=>⟨rfl,hK⟩,fun q=>by cases q⟩
  ·have hq:=HB.o.2
   simp only[Bool.and_eq_true,decide_eq_true_eq] at hq
   have hT:=HCC.o w4 (HM.o.1.below h4) HB.o.1 hq.1 (by have:=hq.2;rw[HLN.o.2.1] at this;exact this)
   obtain⟨k1,k2,k3,k4,k5,k6,k7,k8⟩:=zbY HB.o.1 hq.1 hq.2
   rw[HLN.o.1] at k2 k3 k4 k8
   rw[HLN.o.2.1] at k1 k5
   clear HCC hq
   go_wp2_with fail
   refine hT.mono ?_
   rintro e w5 ⟨ga,ck,bl,lk,bf,fk,arrL,arrF,rfl,hz,hs⟩
   have p0:=h4.size
   have p1:=hs.size
   have hF:=(gei HY4.o).1
   have pa:=hz.lt
   have pb:=hz.lts
   have hD:=zoP wd N M ga ck bl lk bf fk w4.heap.size cs a ac es arrL arrF (fun j=>ls.getD j 0) (fun j=>fs.getD j []) w5 hz p1 HLN.o.2.1 ((HM.o.2.below h4).below hs) k5 (fun b off e hl=>by
    have:=HM.o.2.lt e hl
    omega) k2 (by rw[<- HLN.o.1,zm2];exact k6) k7 k8
   rw[HLN.o.2.2.2] at hD
   rw[HLN.o.2.1]
   have hU:=zae h4 p0 hs
   have HY5:Hid (w5.heap[w.heap.size+1]?=some (.cells xF 35)):=(hs.block _ (gei HY4.o).1).trans HY4.o
   rw[HLN.o.2.2.1] at k3
   clear hT hz hs h4 HY4 c0 c1 c2 c3 k1 k2 k4 k5 k6 k7 k8
   go_wp2_with fail
   refine hD.mono ?_
   rintro e w6 ⟨v,aL,aF,rfl,hV,hX,h5,hA⟩
   have pc:=hF
   have HY6:Hid (w6.heap[w.heap.size+1]?=some (.cells xF 35)):=(h5.block _ (gei HY5.o).1 qg).trans HY5.o
   have HS6:Hid (ScE w4.heap.size w6 (zck cs es E) M ga ck bl bf aL aF (doL wd (zck cs es E) (fun j=>ls.getD j 0) (fun j=>zeL es (fs.getD j []) E) M) (doF wd (zck cs es E) (fun j=>fs.getD j []) (fun j=>zeL es (fs.getD j []) E) M)):=hV
   have HO6:Hid (zaR w6 w5.heap.size v (zbg (fun j=>zeL es (fs.getD j []) E) M)):=hX
   have HF6:Hid (za0 (fun e=>e=ga\/e=bl\/e=bf) w5 w6):=h5
   have HA6:Hid (∀ j u b,j<M->aF[j]?=some u->u.ownBlock=some b->v.ownBlock≠some b):=hA
   have HB5:Hid (xE w w5):=hU
   have pd:=h5.size
   clear hV hX h5 hA hD hU
   go_upto_region 4 with fail
   obtain⟨w7,hu⟩:∃ w7,w7=w6.alloc (.cells (xH wd (xA ga) N ck (xA bl) M lk (xA bf) M fk) 35):=⟨_,rfl⟩
   have hN:xE w6 w7:=by rw[hu];exact(Below.refl _ _).alloc (Nat.le_refl _) _
   have l7:w7.heap[w6.heap.size]?=some (.cells (xH wd (xA ga) N ck (xA bl) M lk (xA bf) M fk) 35):=by rw[hu];exact heap_alloc_new w6 _
   have pe:w7.heap.size=w6.heap.size+1:=by rw[hu];simp
   rw[<- hu]
   clear hu
   have l8:=(hN.block _ (gei HY6.o).1).trans HY6.o
   obtain⟨d0,d1,d2,d3⟩:=zaz l7
   obtain⟨q0,q1,q2,q3⟩:=zaz l8
   have t0:=thaw l8 0
   have t1:=thaw l8 1
   have t2:=thaw l8 2
   have t3:=thaw l8 3
   have HL8:Hid (w7.heap[w.heap.size+1]?=some (.cells xF 35)):=l8
   have HB7:Hid (xE w6 w7):=hN
   clear l7 l8 hN
   go_wp2_with fail
   obtain⟨y,ey⟩:∃ y,y=(((w7.setCell (xD w 1 0) (J wd)).setCell (xD w 1 1) (.slice (xA ga) N ck)).setCell (xD w 1 2) (.slice (xA bl) M lk)).setCell (xD w 1 3) (.slice (xA bf) M fk):=⟨_,rfl⟩
   have r4:=heap_setCell_same _ _ 3 _ _ (.slice (xA bf) M fk) (heap_setCell_same _ _ 2 _ _ (.slice (xA bl) M lk) (heap_setCell_same _ _ 1 _ _ (.slice (xA ga) N ck) (heap_setCell_same _ _ 0 _ _ (J wd) HL8.o)))
   have hP:za0 (fun e=>e=w.heap.size+1) w6 y:=by
    rw[ey]
    have h0:za0 (fun e=>e=w.heap.size+1) w6 w7:=za0.of HB7.o
    have h1:=zcE h0 (p:=(xD w 1 0)) (v:=J wd) rfl
    have h2:=zcE h1 (p:=(xD w 1 1)) (v:=.slice (xA ga) N ck) rfl
    have h3:=zcE h2 (p:=(xD w 1 2)) (v:=.slice (xA bl) M lk) rfl
    exact zcE h3 (p:=(xD w 1 3)) (v:=.slice (xA bf) M fk) rfl
   rw[<- ey] at r4 ⊢
   clear ey q0 q1 q2 q3 t0 t1 t2 t3 d0 d1 d2 d3
   replace r4:y.heap[w.heap.size+1]?=some (.cells (xH wd (xA ga) N ck (xA bl) M lk (xA bf) M fk) 35):=by simpa using r4
   obtain⟨q0,q1,q2,q3⟩:=zaz r4
   have p5:xE w y:=hP.below (HF6.o.below HB5.o (fun e q=>qg) HB5.o.size) (fun e q=>qg) qg
   have p6:=(HS6.o.off hP qg qg qg (fun j u b hj e q=>by have:=(HS6.o.rowlt hj e q).1;omega)).mono (lo':=w.heap.size) qg
   have p7:zaR y w.heap.size v (zbg (fun j=>zeL es (fs.getD j []) E) M):=zaJ (zas HO6.o (fun b q1 q2=>hP.block b q1 (by have:=(World.ownsRow.lt HO6.o b q2).1;omega))) qg
   have p8:∀ b,v.ownBlock=some b->b≠ga/\b≠bl/\b≠bf:=fun b q=>by
    have:=(World.ownsRow.lt HO6.o b q).1
    omega
   have eML:ML=M:=by have:=k3;omega
   subst eML
   obtain⟨e1,e2,e3,e4⟩:=HLN.o
   refine bodyPost_ret (v:=.tuple #[.agg (xH wd (xA ga) N ck (xA bl) ML lk (xA bf) ML fk),v,.bool true]) (by simp[results,results20,go_sem,q0,q1,q2,q3]) rfl ⟨_,_,true,rfl,by unfold zb4;rw[HB.o.1,HB.o.2];rfl,p5,(fun q=>by cases q),fun _=>⟨ga,ck,bl,lk,bf,fk,aL,aF,by rw[e2,e3,e1],by unfold sM;rw[e1,e4];exact p6,by unfold sM;rw[e1,e4];exact p7,p8,by rw[e1];exact HA6.o⟩⟩
end Sp
namespace Sp
open Go.RowKit Go.Maps
attribute [local go_sem ↓] Go.wp_at_zero Go.wp_at_succ
theorem zt6(h:zif wd cs ls fs=true)(z:Int):tch fs fs.length z=zbA fs fs.length z :=
 zht fs z fs.length fun j hj=>by
  obtain⟨_,_,q3⟩:=zig h
  rw[q3] at hj ⊢
  rw[zda] at hj
  rw[zhN hj]
  exact zkf _ _ _
theorem zjz(wd:Int)(g l f a:Option Addr)(gc lc fc ac:Nat)(cs:Lp)(ls:List Int)(fs:List (List Int))(es:List (Int × Int × Int))(w:World)(hM:ScM w g l f cs ls fs)(hS:zdV cs ls fs)(hE:zdO w a es)(hn:es.length<=1048576) :
  Calls SqP.prog 22 #[.agg (xH wd g cs.length gc l ls.length lc f fs.length fc),.slice a es.length ac] w (ztq w wd cs ls fs es):=by
 obtain⟨w2,he⟩:∃ w2,w2=(w.alloc (.cells (xH wd g cs.length gc l ls.length lc f fs.length fc) 35)).alloc (.cells xF 35):=⟨_,rfl⟩
 obtain⟨x1,x2,h6⟩:=zbH (.cells (xH wd g cs.length gc l ls.length lc f fs.length fc) 35) (.cells xF 35) w
 rw[<- he] at x1 x2 h6
 have p9:w2.heap.size=w.heap.size+2:=by rw[he];simp
 have hC:=(zl1 wd cs ls fs hS).1 g l f gc lc fc w2 (hM.below h6)
 have HCD:Hid (∀ y,ScM y g l f cs ls fs->zif wd cs ls fs=true->Calls SqP.prog 45 #[.agg (xH wd g cs.length gc l fs.length lc f fs.length fc)] y fun e x=>∃ bd ga ck bl lk bf fk bm nn hi bs arrL arrF,e=.returned (.pointer (xA bd))/\nn<=fs.length * 1000/\zeM y x wd cs.length fs.length cs bd ga ck bl lk bf fk bm nn hi bs (tch fs fs.length) arrL arrF (fun j=>ls.getD j 0) (fun j=>fs.getD j []) (fun _=>false)):=fun y hy q1=>by
  obtain⟨k1,k2,k3,k4,_,k6,_⟩:=zbY (es:=[]) q1 qm (by simp[ziv])
  exact zmv wd g l f gc lc fc cs ls fs cs.length fs.length y hy qg qg rfl k3 rfl k4 k6
 have HK:Hid (zif wd cs ls fs=true->okG wd cs=true/\cs.length<=25/\(0<fs.length/\fs.length<=20)/\ls.length=fs.length):=fun q1=>by
  obtain⟨k1,k2,k3,k4,_,k6,_⟩:=zbY (es:=[]) q1 qm (by simp[ziv])
  exact⟨(zig q1).1,k1.2,k2,k3⟩
 have HTC:Hid (zif wd cs ls fs=true->∀ z:Int,(tch fs fs.length z).length<=20/\∀ q:Int,q∈tch fs fs.length z ↔ ∃ j:Nat,j<fs.length/\q=(j:Int)/\z∈fs.getD j []):=fun q1 z=>by
  obtain⟨k1,k2,_⟩:=zbY (es:=[]) q1 qm (by simp[ziv])
  rw[zt6 q1 z]
  exact⟨Nat.le_trans (zdJ fs z _) k2.2,ze0 fs z fs.length⟩
 obtain⟨M,h7⟩:∃ M,fs.length=M:=⟨_,rfl⟩
 obtain⟨N,hf⟩:∃ N,cs.length=N:=⟨_,rfl⟩
 obtain⟨ML,hl⟩:∃ ML,ls.length=ML:=⟨_,rfl⟩
 obtain⟨E,hw⟩:∃ E,es.length=E:=⟨_,rfl⟩
 obtain⟨b,eb⟩:∃ b,zif wd cs ls fs=b:=⟨_,rfl⟩
 have HLN:Hid (fs.length=M/\cs.length=N/\ls.length=ML/\es.length=E):=⟨h7,hf,hl,hw⟩
 have HB:Hid (zif wd cs ls fs=b):=eb
 have HM:Hid (ScM w g l f cs ls fs/\zdO w a es):=⟨hM,hE⟩
 rw[eb,h7,hf,hl] at hC
 rw[h7,hf] at HCD
 rw[hf,h7,hl] at HK
 rw[h7] at HTC
 rw[h7,hf,hl] at he x1
 rw[hw] at hn
 rw[h7,hf,hl,hw]
 obtain⟨c0,c1,c2,c3⟩:=zaz x1
 have HX2:Hid (w2.heap[w.heap.size+1]?=some (.cells xF 35)):=x2
 clear hM hS hE h7 hf hl hw eb x1 x2
 by_cases hbig:20<E
 ·have hX:(20:Int)<(E:Int):=qg
  have HBG:Hid (20<E):=hbig
  have hQ:=h6.size
  clear hC HCD HK HTC hbig
  go_enter (zfx func22),ntmps22
  go_upto_region 1 with fail
  rw[<- he]
  clear he
  have t0:=thaw HX2.o 0
  have t1:=thaw HX2.o 1
  have t2:=thaw HX2.o 2
  have t3:=thaw HX2.o 3
  obtain⟨q0,q1,q2,q3⟩:=zaz HX2.o
  have HNB:Hid (∀ y:World,y=((((w2.setCell (xD w 1 0) (J 0)).setCell (xD w 1 1) (.slice none 0 0)).setCell (xD w 1 2) (.slice none 0 0)).setCell (xD w 1 3) (.slice none 0 0))->xE w y/\y.heap[w.heap.size+1]?=some (.cells xF 35)):=fun y ey=>by
   have r4:=heap_setCell_same _ _ 3 _ _ (.slice none 0 0) (heap_setCell_same _ _ 2 _ _ (.slice none 0 0) (heap_setCell_same _ _ 1 _ _ (.slice none 0 0) (heap_setCell_same _ _ 0 _ _ (J 0) HX2.o)))
   have h8:xE w ((((w2.setCell (xD w 1 0) (J 0)).setCell (xD w 1 1) (.slice none 0 0)).setCell (xD w 1 2) (.slice none 0 0)).setCell (xD w 1 3) (.slice none 0 0)):=(((h6.setCell (by show _<=w.heap.size+1;omega) _).setCell (by show _<=w.heap.size+1;omega) _).setCell (by show _<=w.heap.size+1;omega) _).setCell (by show _<=w.heap.size+1;omega) _
   rw[<- ey] at h8 r4
   exact⟨h8,by simpa using r4⟩
  clear h6
  go_wp2_with fail
  obtain⟨y,ey⟩:∃ y,y=((((w2.setCell (xD w 1 0) (J 0)).setCell (xD w 1 1) (.slice none 0 0)).setCell (xD w 1 2) (.slice none 0 0)).setCell (xD w 1 3) (.slice none 0 0)):=⟨_,rfl⟩
  rw[<- ey]
  obtain⟨hp,hs⟩:=HNB.o y ey
  clear ey q0 q1 q2 q3 t0 t1 t2 t3
  obtain⟨q0,q1,q2,q3⟩:=zaz hs
  refine bodyPost_ret (v:=.tuple #[.agg xF,.slice none 0 0,.bool false]) (by simp[results,results22,go_sem,q0,q1,q2,q3]) rfl ⟨_,_,false,rfl,by have h1:=HLN.o.2.2.2;have h2:=HBG.o;have h3:¬ es.length<=20:=qg;simp[zb4,h3],hp,fun _=>⟨rfl,zfs _ _⟩,fun q=>by cases q⟩
 ·have hX:¬ (20:Int)<(E:Int):=qg
  go_enter (zfx func22),ntmps22
  go_upto_region 1 with fail
  rw[<- he]
  clear he
  go_wp2_with fail
  refine hC.mono ?_
  rintro e w3 ⟨rfl,hg⟩
  have hB:=zae h6 h6.size hg
  replace c0:=zab hg c0;replace c1:=zab hg c1;replace c2:=zab hg c2;replace c3:=zab hg c3
  have HY2:Hid (w3.heap[w.heap.size+1]?=some (.cells xF 35)):=(hg.block _ qg).trans HX2.o
  clear hg hC h6 HX2
  rcases b with _|_
  ·clear c0 c1 c2 c3 HCD HK HTC
   have hQ:=hB.size
   have t0:=thaw HY2.o 0
   have t1:=thaw HY2.o 1
   have t2:=thaw HY2.o 2
   have t3:=thaw HY2.o 3
   obtain⟨q0,q1,q2,q3⟩:=zaz HY2.o
   have HNB:Hid (∀ y:World,y=((((w3.setCell (xD w 1 0) (J 0)).setCell (xD w 1 1) (.slice none 0 0)).setCell (xD w 1 2) (.slice none 0 0)).setCell (xD w 1 3) (.slice none 0 0))->xE w y/\y.heap[w.heap.size+1]?=some (.cells xF 35)):=fun y ey=>by
    have r4:=heap_setCell_same _ _ 3 _ _ (.slice none 0 0) (heap_setCell_same _ _ 2 _ _ (.slice none 0 0) (heap_setCell_same _ _ 1 _ _ (.slice none 0 0) (heap_setCell_same _ _ 0 _ _ (J 0) HY2.o)))
    have h8:xE w ((((w3.setCell (xD w 1 0) (J 0)).setCell (xD w 1 1) (.slice none 0 0)).setCell (xD w 1 2) (.slice none 0 0)).setCell (xD w 1 3) (.slice none 0 0)):=(((hB.setCell (by show _<=w.heap.size+1;omega) _).setCell (by show _<=w.heap.size+1;omega) _).setCell (by show _<=w.heap.size+1;omega) _).setCell (by show _<=w.heap.size+1;omega) _
    rw[<- ey] at h8 r4
    exact⟨h8,by simpa using r4⟩
   clear hB
   go_wp2_with fail
   obtain⟨y,ey⟩:∃ y,y=((((w3.setCell (xD w 1 0) (J 0)).setCell (xD w 1 1) (.slice none 0 0)).setCell (xD w 1 2) (.slice none 0 0)).setCell (xD w 1 3) (.slice none 0 0)):=⟨_,rfl⟩
   rw[<- ey]
   obtain⟨hp,hs⟩:=HNB.o y ey
   clear ey q0 q1 q2 q3 t0 t1 t2 t3
   obtain⟨q0,q1,q2,q3⟩:=zaz hs
   refine bodyPost_ret (v:=.tuple #[.agg xF,.slice none 0 0,.bool false]) (by simp[results,results22,go_sem,q0,q1,q2,q3]) rfl ⟨_,_,false,rfl,by unfold zb4;rw[HB.o];rfl,hp,fun _=>⟨rfl,zfs _ _⟩,fun q=>by cases q⟩
  ·obtain⟨k0,k1,k2,k3⟩:=HK.o HB.o
   obtain rfl:M=ML:=k3.symm
   have hT:=HCD.o w3 (HM.o.1.below hB) HB.o
   have HG:Hid (okG wd cs=true):=k0
   have HTZ:Hid (∀ z:Int,(tch fs M z).length<=20/\∀ q:Int,q∈tch fs M z ↔ ∃ j:Nat,j<M/\q=(j:Int)/\z∈fs.getD j []):=HTC.o HB.o
   have hQ:=hB.size
   clear HCD k0 HK HTC
   go_wp2_with fail
   refine hT.mono ?_
   rintro e w4 ⟨bd,ga,ck,bl,lk,bf,fk,bm,nn,hi,bs,arrL,arrF,rfl,pa,hD⟩
   have HD0:Hid (zeM w3 w4 wd N M (zck cs es 0) bd ga ck bl lk bf fk bm nn hi bs (tch fs M) arrL arrF (fun j=>ls.getD j 0) (fun j=>fs.getD j []) (fun j=>zeL es (fs.getD j []) 0)):=hD
   have HBW:Hid (xE w w3):=hB
   clear hD hB hT c0 c1 c2 c3
   go_wp2_with fail
   go_loopw [24] (fun ii wr=>∃ (i ga ck:Nat),i<=E/\ii=J i/\zeM w3 wr wd N M (zck cs es i) bd ga ck bl lk bf fk bm nn hi bs (tch fs M) arrL arrF (fun j=>ls.getD j 0) (fun j=>fs.getD j []) (fun j=>zeL es (fs.getD j []) i)/\okG wd (zck cs es i)=true/\∀ j,j<i->(inP (es.getD j (0,0,0)).1 cs.length && okC (es.getD j (0,0,0)).2.1 (es.getD j (0,0,0)).2.2)=true) (fun ii _=>E - (intOf ii).toNat)
   case atStart=>exact⟨0,_,_,Nat.zero_le _,rfl,HD0.o,HG.o,fun j hj=>qg⟩
   case round =>
    rename World=>wr
    clear HD0
    obtain⟨i,ga,ck,pb,rfl,hD,hz,h9⟩:=hrel
    have hk:xE w wr:=zae HBW.o HBW.o.size hD.below
    have HYr:Hid (wr.heap[w.heap.size+1]?=some (.cells xF 35)):=(hD.below.block _ (gei HY2.o).1).trans HY2.o
    have hY:=(gei HYr.o).1
    by_cases hlt:i<E
    ·obtain⟨eb,eo,z,zk,zl,rfl,ez,y0,y1,y2⟩:=(HM.o.2.below hk).at (i:=i) (by have:=HLN.o.2.2.2;omega)
     have p6:(i:Int)<(E:Int):=qg
     have wk:IntKind.i64.wrap ((i:Int)+1)=(i:Int)+1:=IntWalk.i64_in _ qg
     have hG:(zck cs es i).length=N:=by rw[zbw];exact HLN.o.2.1
     have hu:xE wr (wr.alloc (.cells #[J z,J zk,J zl] 50)):=(Below.refl _ _).alloc (Nat.le_refl _) _
     have hA:=hD.go hu
     have HZ:Hid (es.getD i (0,0,0)=(z,zk,zl)):=ez
     have HAL:Hid (okG wd (zck cs es i)=true/\∀ j,j<i->(inP (es.getD j (0,0,0)).1 cs.length && okC (es.getD j (0,0,0)).2.1 (es.getD j (0,0,0)).2.2)=true):=⟨hz,h9⟩
     have HB5:Hid (xE w (wr.alloc (.cells #[J z,J zk,J zl] 50))):=zae hk hk.size hu
     have HY5:Hid ((wr.alloc (.cells #[J z,J zk,J zl] 50)).heap[w.heap.size+1]?=some (.cells xF 35)):=(hu.block _ hY).trans HYr.o
     obtain⟨cp,ecp⟩:∃ cp,zed wd (zck cs es i) z zk zl=cp:=⟨_,rfl⟩
     rcases cp with _|_
     ·have hP:=ztP hA z zk zl hG qg ecp
      have HNO:Hid (zb4 wd cs ls fs es=false):=by
       have e1:(inP (es.getD i (0,0,0)).1 cs.length && okC (es.getD i (0,0,0)).2.1 (es.getD i (0,0,0)).2.2)=false:=by
        rw[HZ.o]
        unfold zed at ecp
        rw[HAL.o.1,zbw,Bool.true_and,Bool.and_comm] at ecp
        exact ecp
       have e2:=zj5 (n:=cs.length) (i:=i) (by have:=HLN.o.2.2.2;omega) e1
       show _=_
       unfold zb4
       rw[e2]
       simp
      clear hA hD hz h9 ez ecp hk HYr hu HAL
      go_upto_region 7 with fail
      obtain⟨w5,h5⟩:∃ w5,w5=wr.alloc (.cells #[J z,J zk,J zl] 50):=⟨_,rfl⟩
      have v0:w5.cell? (xC wr 0)=some (J z):=by rw[h5];exact(cell_of_row _ _ 0 _ _ _ (heap_alloc_new wr _)).trans rfl
      have v1:w5.cell? (xC wr 1)=some (J zk):=by rw[h5];exact(cell_of_row _ _ 1 _ _ _ (heap_alloc_new wr _)).trans rfl
      have v2:w5.cell? (xC wr 2)=some (J zl):=by rw[h5];exact(cell_of_row _ _ 2 _ _ _ (heap_alloc_new wr _)).trans rfl
      rw[<- h5] at hP HB5 HY5 ⊢
      clear h5 y0 y1 y2
      go_wp2_with fail
      refine hP.mono ?_
      rintro e w6 ⟨rfl,hJ⟩
      have hU:=zae HB5.o HB5.o.size hJ
      have HY6:Hid (w6.heap[w.heap.size+1]?=some (.cells xF 35)):=(hJ.block _ (gei HY5.o).1).trans HY5.o
      clear hP v0 v1 v2 hJ HB5 HY5
      have t0:=thaw HY6.o 0
      have t1:=thaw HY6.o 1
      have t2:=thaw HY6.o 2
      have t3:=thaw HY6.o 3
      obtain⟨q0,q1,q2,q3⟩:=zaz HY6.o
      have HNB:Hid (∀ y:World,y=((((w6.setCell (xD w 1 0) (J 0)).setCell (xD w 1 1) (.slice none 0 0)).setCell (xD w 1 2) (.slice none 0 0)).setCell (xD w 1 3) (.slice none 0 0))->xE w y/\y.heap[w.heap.size+1]?=some (.cells xF 35)):=fun y ey=>by
       have r4:=heap_setCell_same _ _ 3 _ _ (.slice none 0 0) (heap_setCell_same _ _ 2 _ _ (.slice none 0 0) (heap_setCell_same _ _ 1 _ _ (.slice none 0 0) (heap_setCell_same _ _ 0 _ _ (J 0) HY6.o)))
       have h8:xE w ((((w6.setCell (xD w 1 0) (J 0)).setCell (xD w 1 1) (.slice none 0 0)).setCell (xD w 1 2) (.slice none 0 0)).setCell (xD w 1 3) (.slice none 0 0)):=(((hU.setCell (by show _<=w.heap.size+1;omega) _).setCell (by show _<=w.heap.size+1;omega) _).setCell (by show _<=w.heap.size+1;omega) _).setCell (by show _<=w.heap.size+1;omega) _
       rw[<- ey] at h8 r4
       exact⟨h8,by simpa using r4⟩
      clear hU
      go_wp2_with fail
      obtain⟨y,ey⟩:∃ y,y=((((w6.setCell (xD w 1 0) (J 0)).setCell (xD w 1 1) (.slice none 0 0)).setCell (xD w 1 2) (.slice none 0 0)).setCell (xD w 1 3) (.slice none 0 0)):=⟨_,rfl⟩
      rw[<- ey]
      obtain⟨hp,hs⟩:=HNB.o y ey
      clear ey q0 q1 q2 q3 t0 t1 t2 t3
      obtain⟨q0,q1,q2,q3⟩:=zaz hs
      refine bodyPost_ret (v:=.tuple #[.agg xF,.slice none 0 0,.bool false]) (by simp[results,results22,go_sem,q0,q1,q2,q3]) rfl ⟨_,_,false,rfl,HNO.o.symm,hp,fun _=>⟨rfl,zfs _ _⟩,fun q=>by cases q⟩
     ·have ecp2:=ecp
      simp only[zed,Bool.and_eq_true,decide_eq_true_eq] at ecp2
      have hP:=zs3 hA z zk zl hG qg qg (by rw[<- hG];exact ecp2.2.2) ecp (fun q hq=>let ⟨j,h1,h2,_⟩:=((HTZ.o z).2 q).1 hq;⟨j,h1,h2⟩) (by have:=(HTZ.o z).1;omega)
      have HCP:Hid (okC zk zl=true/\0<=z/\z<((zck cs es i).length:Int)):=ecp2.2
      clear hA hD hz h9 ez ecp ecp2 hk HYr hu
      go_upto_region 7 with fail
      obtain⟨w5,h5⟩:∃ w5,w5=wr.alloc (.cells #[J z,J zk,J zl] 50):=⟨_,rfl⟩
      have v0:w5.cell? (xC wr 0)=some (J z):=by rw[h5];exact(cell_of_row _ _ 0 _ _ _ (heap_alloc_new wr _)).trans rfl
      have v1:w5.cell? (xC wr 1)=some (J zk):=by rw[h5];exact(cell_of_row _ _ 1 _ _ _ (heap_alloc_new wr _)).trans rfl
      have v2:w5.cell? (xC wr 2)=some (J zl):=by rw[h5];exact(cell_of_row _ _ 2 _ _ _ (heap_alloc_new wr _)).trans rfl
      rw[<- h5] at hP HB5 HY5 ⊢
      clear h5 y0 y1 y2
      go_wp2_with fail
      refine hP.mono ?_
      rintro e w6 ⟨g2,rfl,hK⟩
      have HD6:Hid (zeM w3 w6 wd N M (zck cs es (i+1)) bd g2 N bl lk bf fk bm nn hi bs (tch fs M) arrL arrF (fun j=>ls.getD j 0) (fun j=>fs.getD j []) (fun j=>zeL es (fs.getD j []) (i+1))):=by
       have e1:(zck cs es i).set z.toNat (zk,zl)=zck cs es (i+1):=by
        show _=(zck cs es i).set (es.getD i (0,0,0)).1.toNat (es.getD i (0,0,0)).2
        rw[HZ.o]
       rw[e1] at hK
       exact hK.like fun j hj=>by
        show (zeL es (fs.getD j []) i || decide ((es.getD i (0,0,0)).1∈fs.getD j []))=_
        rw[HZ.o]
        congr 1
        rw[Bool.eq_iff_iff]
        simp only[decide_eq_true_eq]
        rw[(HTZ.o z).2]
        constructor
        ·exact fun h=>⟨j,hj,rfl,h⟩
        ·rintro⟨j',h1,h2,h3⟩
         have:j=j':=qg
         rw[this]
         exact h3
      have HA6:Hid (okG wd (zck cs es (i+1))=true/\∀ j,j<i+1->(inP (es.getD j (0,0,0)).1 cs.length && okC (es.getD j (0,0,0)).2.1 (es.getD j (0,0,0)).2.2)=true):=by
       refine⟨zo3 HAL.o.1 _ (by rw[HZ.o];exact HCP.o.1),fun j hj=>?_⟩
       by_cases q:j=i
       ·rw[q,HZ.o]
        have:=HCP.o.2
        rw[zbw] at this
        simp[inP,HCP.o.1,this]
       ·exact HAL.o.2 j qg
      clear hP hK v0 v1 v2 HB5 HY5 HAL
      go_wp2_with fail
      go_roundw
      case rel=>exact⟨i+1,g2,N,qg,by go_num,HD6.o,HA6.o.1,HA6.o.2⟩
      case measure=>exact qe
    ·have pc:¬ (i:Int)<(E:Int):=qg
     obtain rfl:i=E:=qg
     have hL:=zi8 hD (by rw[zbw];exact HLN.o.2.1) qg qg
     have HOK:Hid (zb4 wd cs ls fs es=true):=by
      have e4:=HLN.o.2.2.2
      have e1:=zlB (n:=cs.length) (es:=es) (fun j hj=>h9 j qg)
      have e2:es.length<=20:=qg
      show _=_
      unfold zb4
      rw[HB.o,e1,decide_eq_true e2]
      rfl
     have HBr:Hid (xE w wr):=hk
     clear hD hz h9 hk
     go_wp2_with fail
     refine hL.mono ?_
     rintro e w7 ⟨v,aL,aF,rfl,h4,hV,hF⟩
     have l8:=(h4.below.block _ (gei HY2.o).1).trans HY2.o
     have d0:=(cell_of_row _ _ 0 _ _ _ h4.box).trans rfl
     have d1:=(cell_of_row _ _ 1 _ _ _ h4.box).trans rfl
     have d2:=(cell_of_row _ _ 2 _ _ _ h4.box).trans rfl
     have d3:=(cell_of_row _ _ 3 _ _ _ h4.box).trans rfl
     obtain⟨q0,q1,q2,q3⟩:=zaz l8
     have t0:=thaw l8 0
     have t1:=thaw l8 1
     have t2:=thaw l8 2
     have t3:=thaw l8 3
     have HL8:Hid (w7.heap[w.heap.size+1]?=some (.cells xF 35)):=l8
     have HBL:Hid (xE w3 w7):=h4.below
     have HS7:Hid (ScE w3.heap.size w7 (zck cs es i) M ga ck bl bf aL aF (doL wd (zck cs es i) (fun j=>ls.getD j 0) (fun j=>zeL es (fs.getD j []) i) M) (doF wd (zck cs es i) (fun j=>fs.getD j []) (fun j=>zeL es (fs.getD j []) i) M)):=h4.sc
     have HO7:Hid (zaR w7 wr.heap.size v (zbg (fun j=>zeL es (fs.getD j []) i) M)):=hV
     have HA7:Hid (∀ j u b,j<M->aF[j]?=some u->u.ownBlock=some b->v.ownBlock≠some b):=hF
     have p7:=h4.lt
     have p8:=h4.sc.lt
     have pd:=(gei HY2.o).1
     have pe:=h4.size
     have n8:bd≠w.heap.size+1:=by have:=h4.ge;omega
     clear h4 hV hF hL l8
     go_wp2_with fail
     obtain⟨y,ey⟩:∃ y,y=((((w7.setCell (xD w 1 0) (J wd)).setCell (xD w 1 1) (.slice (xA ga) N ck)).setCell (xD w 1 2) (.slice (xA bl) M lk)).setCell (xD w 1 3) (.slice (xA bf) M fk)):=⟨_,rfl⟩
     have r4:=heap_setCell_same _ _ 3 _ _ (.slice (xA bf) M fk) (heap_setCell_same _ _ 2 _ _ (.slice (xA bl) M lk) (heap_setCell_same _ _ 1 _ _ (.slice (xA ga) N ck) (heap_setCell_same _ _ 0 _ _ (J wd) HL8.o)))
     have hN:za0 (fun e=>e=w.heap.size+1) w7 y:=by
      rw[ey]
      have h0:za0 (fun e=>e=w.heap.size+1) w7 w7:=za0.refl _ _
      have h1:=zcE h0 (p:=(xD w 1 0)) (v:=J wd) rfl
      have h2:=zcE h1 (p:=(xD w 1 1)) (v:=.slice (xA ga) N ck) rfl
      have h3:=zcE h2 (p:=(xD w 1 2)) (v:=.slice (xA bl) M lk) rfl
      exact zcE h3 (p:=(xD w 1 3)) (v:=.slice (xA bf) M fk) rfl
     rw[<- ey] at r4 ⊢
     clear ey q0 q1 q2 q3 t0 t1 t2 t3 d0 d1 d2 d3
     replace r4:y.heap[w.heap.size+1]?=some (.cells (xH wd (xA ga) N ck (xA bl) M lk (xA bf) M fk) 35):=by simpa using r4
     obtain⟨q0,q1,q2,q3⟩:=zaz r4
     have hZ:xE w y:=hN.below (zae HBW.o HBW.o.size HBL.o) (fun e q=>qg) (by have:=HBL.o.size;omega)
     have p0:=(HS7.o.off hN qg qg qg (fun j u b hj e q=>by have:=(HS7.o.rowlt hj e q).1;omega)).mono (lo':=w.heap.size) qg
     have p1:zaR y w.heap.size v (zbg (fun j=>zeL es (fs.getD j []) i) M):=zaJ (zas HO7.o (fun b q1 q2=>hN.block b q1 (by have:=(World.ownsRow.lt HO7.o b q2).1;omega))) qg
     have p5:∀ b,v.ownBlock=some b->b≠ga/\b≠bl/\b≠bf:=fun b q=>by
      have:=(World.ownsRow.lt HO7.o b q).1
      omega
     obtain⟨e1,e2,e3,e4⟩:=HLN.o
     refine bodyPost_ret (v:=.tuple #[.agg (xH wd (xA ga) N ck (xA bl) M lk (xA bf) M fk),v,.bool true]) (by simp[results,results22,go_sem,q0,q1,q2,q3]) rfl ⟨_,_,true,rfl,HOK.o.symm,hZ,(fun q=>by cases q),fun _=>⟨ga,ck,bl,lk,bf,fk,aL,aF,by rw[e2,e3,e1],by unfold sM;rw[e1,e4];exact p0,by unfold sM;rw[e1,e4];exact p1,p5,by rw[e1];exact HA7.o⟩⟩
