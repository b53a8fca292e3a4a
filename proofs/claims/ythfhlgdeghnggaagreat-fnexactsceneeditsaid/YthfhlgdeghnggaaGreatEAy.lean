/- Part. -/
import Derived.Test.YthfhlgdeghnggaaGreatEAx
set_option maxHeartbeats 8000000
set_option maxRecDepth 100000
set_option linter.unusedVariables false
namespace Go.Proofs.YthfhlgdeghnggaaGreat
variable{r:Ending}{wd:Int}{es:Le}{fs:List (List Int)}{ls:List Int}{cs:Lp}{B M N gc hi:Nat}{s:Nat->Bool}{L l:Nat->Int}{F:Nat->List Int}{cp n:Nat->Nat}{f:Nat->Nat->Int}{ad:Nat->Od}{a fa ga la:Od}{w w':World}
open _root_.Go.Proofs.Tryz
namespace Sp
open Go.RowKit
attribute [local go_sem ↓] Go.wp_at_zero Go.wp_at_succ
theorem zov{k:Nat}(hk:okG wd cs=true)(h:k<zbD wd cs):0<(zaA wd cs (k:Int)).length:=by
 obtain⟨_,_,_,h0⟩:=zdk hk
 obtain⟨W,H,S⟩:=zc3 hk
 have hs:inS wd cs (k:Int)=true:=by unfold inS;rw[h0];exact decide_eq_true qg
 have h2:k<2 * (W+H):=by have:=S.em;omega
 obtain⟨x,d,hx⟩:∃ x d,zdI (W:Int) (H:Int) (k:Int)=(x,d):=⟨_,_,rfl⟩
 have hr:zbU wd cs (k:Int)=(x,d,true):=by rw[zdC S k h2,hx]
 have hm:(x,d,(64:Int))∈(zaO wd cs (k:Int)).1:=by
  unfold zaO
  rw[if_pos hs,hr]
  show (x,d,(64:Int))∈(za8 ([(x,d,((64:Nat):Int))],[]) (zbg wd cs (zaI wd cs 706) x d 64)).1
  simp[za8]
 obtain⟨h1,_⟩:=zdy (rfl:zaO wd cs (k:Int)=_)
 have hx:=h1 _ hm
 simp only at hx
 refine List.length_pos_iff.2 (List.ne_nil_of_mem (a:=x) ?_)
 unfold zaA zaK
 simp only[List.mem_map,List.mem_filter,List.mem_range]
 refine⟨x.toNat,⟨qg,?_⟩,qg⟩
 unfold seenAt
 simp only[List.any_eq_true,beq_iff_eq]
 exact⟨_,hm,by show x=_;omega⟩
theorem zo1(h:okG wd cs=true)(X:Nat){k l:Int}(hc:okC k l=true):okG wd (cs.set X (k,l))=true:=by
 unfold okG at h ⊢
 simp only[Bool.and_eq_true,List.all_eq_true,List.length_set] at h ⊢
 refine⟨h.1,fun c hm=>?_⟩
 rcases List.mem_or_eq_of_mem_set hm with q|rfl
 ·exact h.2 c q
 ·exact hc
theorem zof{n:Nat}(h:ziy n es=true){i:Nat}(hi:i<es.length):(0<=(es.getD i (0,0,0)).1/\(es.getD i (0,0,0)).1<(n:Int))/\okC (es.getD i (0,0,0)).2.1 (es.getD i (0,0,0)).2.2=true:=by
 unfold ziy at h
 rw[List.all_eq_true] at h
 have:=h (es.getD i (0,0,0)) (by simp only[List.getD,List.getElem?_eq_getElem hi,Option.getD_some];exact List.getElem_mem hi)
 simp only[Bool.and_eq_true,inP,decide_eq_true_eq] at this
 exact this
theorem zpf{wd:Int}{cs:Lp}{es:Le}(h:okG wd cs=true)(he:ziy cs.length es=true):∀ i,i<=es.length->okG wd (zbQ cs es i)=true
 | 0,_=>h
 | i+1,hi=>zo1 (zpf h he i qg) _ (zof he (i:=i) qg).2
theorem zoS{cs':Lp}(h:okG wd cs=true)(h':okG wd cs'=true)(hl:cs'.length=cs.length):zbD wd cs'=zbD wd cs:=by
 unfold zbD zbV
 rw[if_pos h,if_pos h',hl]
def zbN(wd:Int)(cs:Lp)(ls:List Int)(fs:List (List Int))(es:Le):Bool:=zii wd cs ls fs && (decide (es.length<=20) && ziy cs.length es)
def sM(fs:List (List Int))(es:Le):Nat->Bool:=fun j=>zeJ es (fs.getD j []) es.length
def zqc(w:World)(wd:Int)(cs:Lp)(ls:List Int)(fs:List (List Int))(es:Le)(e:Ending)(w':World):Prop :=
 ∃ x v b,e=.returned (.tuple #[x,v,.bool b])/\b=zbN wd cs ls fs es/\xE w w' /\
  (b=false->x=.agg xF/\zaL w' w.heap.size v []) /\
  (b=true->∃ ga ck bl lk bf fk arrL arrF,x=.agg (xH wd (xA ga) cs.length ck (xA bl) ls.length lk (xA bf) fs.length fk) /\
   ScE w.heap.size w' (zbQ cs es es.length) fs.length ga ck bl bf arrL arrF (doL wd (zbQ cs es es.length) (fun j=>ls.getD j 0) (sM fs es) fs.length) (doF wd (zbQ cs es es.length) (fun j=>fs.getD j []) (sM fs es) fs.length) /\
   zaL w' w.heap.size v (zba (sM fs es) fs.length)/\(∀ b,v.ownBlock=some b->b≠ga/\b≠bl/\b≠bf)/\∀ j u b,j<fs.length->arrF[j]?=some u->u.ownBlock=some b->v.ownBlock≠some b)
theorem zgN.lt(h:zgN w a es){b off:Nat}(e:a=some (O b off))(hl:0<es.length):b<w.heap.size:=by
 obtain⟨b',off',x,k,l,e',_,h1,_⟩:=h.at hl
 rw[e] at e'
 cases e'
 exact World.block_lt_of_cell? _ _ h1
theorem zb1(h:zii wd cs ls fs=true)(h2:es.length<=20)(h3:ziy cs.length es=true) :
  (0<cs.length/\cs.length<=25)/\(0<fs.length/\fs.length<=20)/\ls.length=fs.length/\(∀ k,k<fs.length->0<(fs.getD k []).length/\(fs.getD k []).length<=1000)/\zuv cs.length es/\zhA fs/\okG wd (zbQ cs es es.length)=true/\zbD wd (zbQ cs es es.length)=fs.length:=by
 obtain⟨q1,q2,q3⟩:=zij h
 obtain⟨hn,hp,hM,h1⟩:=zdk q1
 obtain⟨W,H,S⟩:=zc3 q1
 have eM:fs.length=zbD wd cs:=by rw[q3,zdc]
 have h4:0<zbD wd cs:=by have:=S.em;have:=S.hW;omega
 have h0:=zpf q1 h3 es.length (Nat.le_refl _)
 refine⟨⟨hp,hn⟩,⟨qg,qg⟩,by rw[q2,q3,zkv,zdc],fun k hk=>?_,⟨qg,fun i hi=>(zof h3 hi).1⟩,by rw[q3];exact zke q1,h0,by rw[eM];exact zoS q1 h0 (zby _ _ _)⟩
 rw[eM] at hk
 rw[q3,zhP hk]
 exact⟨zov q1 hk,Nat.le_trans (zeO _ _) qg⟩
theorem zm2(fs:List (List Int)):zeU fs.length (fun j=>fs.getD j [])=fs:=by
 unfold zeU
 refine List.ext_getElem qm fun i h1 h2=>?_
 simp[List.getD,h2]
theorem zjG(wd:Int)(g l f a:Od)(gc lc fc ac:Nat)(cs:Lp)(ls:List Int)(fs:List (List Int))(es:Le)(w:World)(hM:ScM w g l f cs ls fs)(hS:zc8 cs ls fs)(hE:zgN w a es)(hn:es.length<=1048576) :
  Calls SqP.prog 20 #[.agg (xH wd g cs.length gc l ls.length lc f fs.length fc),.slice a es.length ac] w (zqc w wd cs ls fs es):=by
 obtain⟨w2,hg⟩:∃ w2,w2=(w.alloc (.cells (xH wd g cs.length gc l ls.length lc f fs.length fc) 35)).alloc (.cells xF 35):=⟨_,rfl⟩
 obtain⟨x1,x2,hk⟩:=zbJ (.cells (xH wd g cs.length gc l ls.length lc f fs.length fc) 35) (.cells xF 35) w
 rw[<- hg] at x1 x2 hk
 have p9:w2.heap.size=w.heap.size+2:=by rw[hg];simp
 have hC:=(zl1 wd cs ls fs hS).2 g l f gc lc fc w2 (hM.below hk)
 have HCE:Hid (∀ y,zgN y a es->Calls SqP.prog 42 #[.agg (xG wd g cs.length gc),.slice a es.length ac] y fun e w'=>e=.returned (.bool (decide (es.length<=20) && ziy cs.length es))/\xE y w'):=fun y hy=>zi7 wd g a gc ac cs.length es y hy hS.1 hn
 have HCC:Hid (∀ y,ScM y g l f cs ls fs->zii wd cs ls fs=true->es.length<=20->ziy cs.length es=true->Calls SqP.prog 44 #[.agg (xH wd g cs.length gc l ls.length lc f fs.length fc)] y (zub y wd cs fs.length (fun j=>ls.getD j 0) (fun j=>fs.getD j []))):=fun y hy q1 q2 q3=>by
  obtain⟨k1,k2,k3,k4,_⟩:=zb1 q1 q2 q3
  have:=zkt wd g l f gc lc fc cs ls fs fs.length y hy qg qg k3 rfl k4
  rw[k3]
  exact this
 obtain⟨M,he⟩:∃ M,fs.length=M:=⟨_,rfl⟩
 obtain⟨N,h6⟩:∃ N,cs.length=N:=⟨_,rfl⟩
 obtain⟨ML,hf⟩:∃ ML,ls.length=ML:=⟨_,rfl⟩
 obtain⟨E,hw⟩:∃ E,es.length=E:=⟨_,rfl⟩
 obtain⟨b,eb⟩:∃ b,zii wd cs ls fs=b:=⟨_,rfl⟩
 obtain⟨b2,eb2⟩:∃ b2,(decide (es.length<=20) && ziy cs.length es)=b2:=⟨_,rfl⟩
 have HLN:Hid (fs.length=M/\cs.length=N/\ls.length=ML/\es.length=E):=⟨he,h6,hf,hw⟩
 have HB:Hid (zii wd cs ls fs=b/\(decide (es.length<=20) && ziy cs.length es)=b2):=⟨eb,eb2⟩
 have HM:Hid (ScM w g l f cs ls fs/\zgN w a es):=⟨hM,hE⟩
 rw[eb,he,h6,hf] at hC
 rw[eb2,h6,hw] at HCE
 rw[he,h6,hf] at HCC
 rw[he,h6,hf] at hg x1
 rw[he,h6,hf,hw]
 obtain⟨c0,c1,c2,c3⟩:=zav x1
 have HX1:Hid (w2.heap[w.heap.size]?=some (.cells (xH wd g N gc l ML lc f M fc) 35)):=x1
 have HX2:Hid (w2.heap[w.heap.size+1]?=some (.cells xF 35)):=x2
 clear hM hS hE hn he h6 hf hw eb eb2 x1 x2
 go_enter (zfx func20),ntmps20
 go_upto_region 1 with fail
 rw[<- hg]
 clear hg
 go_wp2_with fail
 refine hC.mono ?_
 rintro e w3 ⟨rfl,h7⟩
 have hB:=zae hk hk.size h7
 replace c0:=zaa h7 c0;replace c1:=zaa h7 c1;replace c2:=zaa h7 c2;replace c3:=zaa h7 c3
 have HY2:Hid (w3.heap[w.heap.size+1]?=some (.cells xF 35)):=(h7.block _ qg).trans HX2.o
 clear h7 hC hk HX1 HX2
 rcases b with _|_
 ·clear c0 c1 c2 c3 HCE HCC
  have t0:=thaw HY2.o 0
  have t1:=thaw HY2.o 1
  have t2:=thaw HY2.o 2
  have t3:=thaw HY2.o 3
  obtain⟨q0,q1,q2,q3⟩:=zav HY2.o
  have hF:=(gei HY2.o).1
  have hY:=hB.size
  have HNB:Hid (∀ y:World,y=((((w3.setCell (xD w 1 0) (J 0)).setCell (xD w 1 1) (.slice none 0 0)).setCell (xD w 1 2) (.slice none 0 0)).setCell (xD w 1 3) (.slice none 0 0)).alloc (.cells #[] 3)->xE w y/\zaL y w.heap.size (.slice (xA w3.heap.size) 0 0) []/\y.heap[w.heap.size+1]?=some (.cells xF 35)):=fun y ey=>by
   have h8:xE w ((((w3.setCell (xD w 1 0) (J 0)).setCell (xD w 1 1) (.slice none 0 0)).setCell (xD w 1 2) (.slice none 0 0)).setCell (xD w 1 3) (.slice none 0 0)):=(((hB.setCell (by show _<=w.heap.size+1;omega) _).setCell (by show _<=w.heap.size+1;omega) _).setCell (by show _<=w.heap.size+1;omega) _).setCell (by show _<=w.heap.size+1;omega) _
   have hp:((((w3.setCell (xD w 1 0) (J 0)).setCell (xD w 1 1) (.slice none 0 0)).setCell (xD w 1 2) (.slice none 0 0)).setCell (xD w 1 3) (.slice none 0 0)).heap.size=w3.heap.size:=qm
   have r4:=heap_setCell_same _ _ 3 _ _ (.slice none 0 0) (heap_setCell_same _ _ 2 _ _ (.slice none 0 0) (heap_setCell_same _ _ 1 _ _ (.slice none 0 0) (heap_setCell_same _ _ 0 _ _ (J 0) HY2.o)))
   obtain⟨z,ez⟩:∃ z,z=((((w3.setCell (xD w 1 0) (J 0)).setCell (xD w 1 1) (.slice none 0 0)).setCell (xD w 1 2) (.slice none 0 0)).setCell (xD w 1 3) (.slice none 0 0)):=⟨_,rfl⟩
   rw[<- ez] at h8 hp ey r4
   subst ey
   refine⟨zae h8 h8.size ((Below.refl _ _).alloc (Nat.le_refl _) _),⟨rfl,Or.inr ⟨w3.heap.size,0,#[],rfl,qg,by rw[<- hp];exact heap_alloc_new z _,Nat.le_refl _,qs,rfl,rfl⟩⟩,?_⟩
   have hG:xE z (z.alloc (.cells #[] 3)):=(Below.refl _ _).alloc (Nat.le_refl _) _
   rw[hG.block _ qg]
   simpa using r4
  clear hB
  go_wp2_with fail
  obtain⟨y,ey⟩:∃ y,y=((((w3.setCell (xD w 1 0) (J 0)).setCell (xD w 1 1) (.slice none 0 0)).setCell (xD w 1 2) (.slice none 0 0)).setCell (xD w 1 3) (.slice none 0 0)).alloc (.cells #[] 3):=⟨_,rfl⟩
  rw[<- ey]
  obtain⟨hJ,hK,hL⟩:=HNB.o y ey
  clear ey q0 q1 q2 q3 t0 t1 t2 t3
  obtain⟨q0,q1,q2,q3⟩:=zav hL
  refine bodyPost_ret (v:=.tuple #[.agg xF,.slice (xA w3.heap.size) 0 0,.bool false]) (by simp[results,results20,go_sem,q0,q1,q2,q3]) rfl ⟨_,_,false,rfl,by unfold zbN;rw[HB.o.1,HB.o.2];rfl,hJ,fun _=>⟨rfl,hK⟩,fun q=>by cases q⟩
 ·have hQ:=HCE.o w3 (HM.o.2.below hB)
  go_wp2_with fail
  refine hQ.mono ?_
  rintro e w4 ⟨rfl,h9⟩
  have hZ:=(gei HY2.o).1
  have h4:=zae hB hB.size h9
  replace c0:=zaa h9 c0;replace c1:=zaa h9 c1;replace c2:=zaa h9 c2;replace c3:=zaa h9 c3
  have HY4:Hid (w4.heap[w.heap.size+1]?=some (.cells xF 35)):=(h9.block _ hZ).trans HY2.o
  clear h9 hQ hB HY2 HCE
  rcases b2 with _|_
  ·clear c0 c1 c2 c3 HCC
   have t0:=thaw HY4.o 0
   have t1:=thaw HY4.o 1
   have t2:=thaw HY4.o 2
   have t3:=thaw HY4.o 3
   obtain⟨q0,q1,q2,q3⟩:=zav HY4.o
   have hF:=(gei HY4.o).1
   have hY:=h4.size
   have HNB:Hid (∀ y:World,y=((((w4.setCell (xD w 1 0) (J 0)).setCell (xD w 1 1) (.slice none 0 0)).setCell (xD w 1 2) (.slice none 0 0)).setCell (xD w 1 3) (.slice none 0 0)).alloc (.cells #[] 3)->xE w y/\zaL y w.heap.size (.slice (xA w4.heap.size) 0 0) []/\y.heap[w.heap.size+1]?=some (.cells xF 35)):=fun y ey=>by
    have h8:xE w ((((w4.setCell (xD w 1 0) (J 0)).setCell (xD w 1 1) (.slice none 0 0)).setCell (xD w 1 2) (.slice none 0 0)).setCell (xD w 1 3) (.slice none 0 0)):=(((h4.setCell (by show _<=w.heap.size+1;omega) _).setCell (by show _<=w.heap.size+1;omega) _).setCell (by show _<=w.heap.size+1;omega) _).setCell (by show _<=w.heap.size+1;omega) _
    have hp:((((w4.setCell (xD w 1 0) (J 0)).setCell (xD w 1 1) (.slice none 0 0)).setCell (xD w 1 2) (.slice none 0 0)).setCell (xD w 1 3) (.slice none 0 0)).heap.size=w4.heap.size:=qm
    have r4:=heap_setCell_same _ _ 3 _ _ (.slice none 0 0) (heap_setCell_same _ _ 2 _ _ (.slice none 0 0) (heap_setCell_same _ _ 1 _ _ (.slice none 0 0) (heap_setCell_same _ _ 0 _ _ (J 0) HY4.o)))
    obtain⟨z,ez⟩:∃ z,z=((((w4.setCell (xD w 1 0) (J 0)).setCell (xD w 1 1) (.slice none 0 0)).setCell (xD w 1 2) (.slice none 0 0)).setCell (xD w 1 3) (.slice none 0 0)):=⟨_,rfl⟩
    rw[<- ez] at h8 hp ey r4
    subst ey
    refine⟨zae h8 h8.size ((Below.refl _ _).alloc (Nat.le_refl _) _),⟨rfl,Or.inr ⟨w4.heap.size,0,#[],rfl,qg,by rw[<- hp];exact heap_alloc_new z _,Nat.le_refl _,qs,rfl,rfl⟩⟩,?_⟩
    have hG:xE z (z.alloc (.cells #[] 3)):=(Below.refl _ _).alloc (Nat.le_refl _) _
    rw[hG.block _ qg]
    simpa using r4
   clear h4
   go_wp2_with fail
   obtain⟨y,ey⟩:∃ y,y=((((w4.setCell (xD w 1 0) (J 0)).setCell (xD w 1 1) (.slice none 0 0)).setCell (xD w 1 2) (.slice none 0 0)).setCell (xD w 1 3) (.slice none 0 0)).alloc (.cells #[] 3):=⟨_,rfl⟩
   rw[<- ey]
   obtain⟨hJ,hK,hL⟩:=HNB.o y ey
   clear ey q0 q1 q2 q3 t0 t1 t2 t3
   obtain⟨q0,q1,q2,q3⟩:=zav hL
   refine bodyPost_ret (v:=.tuple #[.agg xF,.slice (xA w4.heap.size) 0 0,.bool false]) (by simp[results,results20,go_sem,q0,q1,q2,q3]) rfl ⟨_,_,false,rfl,by unfold zbN;rw[HB.o.1,HB.o.2];rfl,hJ,fun _=>⟨rfl,hK⟩,fun q=>by cases q⟩
  ·have hq:=HB.o.2
   simp only[Bool.and_eq_true,decide_eq_true_eq] at hq
   have hT:=HCC.o w4 (HM.o.1.below h4) HB.o.1 hq.1 (by have:=hq.2;rw[HLN.o.2.1] at this;exact this)
   obtain⟨k1,k2,k3,k4,k5,k6,k7,k8⟩:=zb1 HB.o.1 hq.1 hq.2
   rw[HLN.o.1] at k2 k3 k4 k8
   rw[HLN.o.2.1] at k1 k5
   clear HCC hq
   go_wp2_with fail
   refine hT.mono ?_
   rintro e w5 ⟨ga,ck,bl,lk,bf,fk,arrL,arrF,rfl,hz,hs⟩
   have p0:=h4.size
   have p1:=hs.size
   have hF:=(gei HY4.o).1
   have pa:=hz.lt
   have pb:=hz.lts
   have hD:=zoN wd N M ga ck bl lk bf fk w4.heap.size cs a ac es arrL arrF (fun j=>ls.getD j 0) (fun j=>fs.getD j []) w5 hz p1 HLN.o.2.1 ((HM.o.2.below h4).below hs) k5 (fun b off e hl=>by
    have:=HM.o.2.lt e hl
    omega) k2 (by rw[<- HLN.o.1,zm2];exact k6) k7 k8
   rw[HLN.o.2.2.2] at hD
   rw[HLN.o.2.1]
   have hU:=zae h4 p0 hs
   have HY5:Hid (w5.heap[w.heap.size+1]?=some (.cells xF 35)):=(hs.block _ (gei HY4.o).1).trans HY4.o
   rw[HLN.o.2.2.1] at k3
   clear hT hz hs h4 HY4 c0 c1 c2 c3 k1 k2 k4 k5 k6 k7 k8
   go_wp2_with fail
   refine hD.mono ?_
   rintro e w6 ⟨v,aL,aF,rfl,hV,hX,h5,hA⟩
   have pc:=hF
   have HY6:Hid (w6.heap[w.heap.size+1]?=some (.cells xF 35)):=(h5.block _ (gei HY5.o).1 qg).trans HY5.o
   have HS6:Hid (ScE w4.heap.size w6 (zbQ cs es E) M ga ck bl bf aL aF (doL wd (zbQ cs es E) (fun j=>ls.getD j 0) (fun j=>zeJ es (fs.getD j []) E) M) (doF wd (zbQ cs es E) (fun j=>fs.getD j []) (fun j=>zeJ es (fs.getD j []) E) M)):=hV
   have HO6:Hid (zaL w6 w5.heap.size v (zba (fun j=>zeJ es (fs.getD j []) E) M)):=hX
   have HF6:Hid (zaQ (fun e=>e=ga\/e=bl\/e=bf) w5 w6):=h5
   have HA6:Hid (∀ j u b,j<M->aF[j]?=some u->u.ownBlock=some b->v.ownBlock≠some b):=hA
   have HB5:Hid (xE w w5):=hU
   have pd:=h5.size
   clear hV hX h5 hA hD hU
   go_upto_region 4 with fail
   obtain⟨w7,hu⟩:∃ w7,w7=w6.alloc (.cells (xH wd (xA ga) N ck (xA bl) M lk (xA bf) M fk) 35):=⟨_,rfl⟩
   have hN:xE w6 w7:=by rw[hu];exact(Below.refl _ _).alloc (Nat.le_refl _) _
   have l7:w7.heap[w6.heap.size]?=some (.cells (xH wd (xA ga) N ck (xA bl) M lk (xA bf) M fk) 35):=by rw[hu];exact heap_alloc_new w6 _
   have pe:w7.heap.size=w6.heap.size+1:=by rw[hu];simp
   rw[<- hu]
   clear hu
   have l8:=(hN.block _ (gei HY6.o).1).trans HY6.o
   obtain⟨d0,d1,d2,d3⟩:=zav l7
   obtain⟨q0,q1,q2,q3⟩:=zav l8
   have t0:=thaw l8 0
   have t1:=thaw l8 1
   have t2:=thaw l8 2
   have t3:=thaw l8 3
   have HL8:Hid (w7.heap[w.heap.size+1]?=some (.cells xF 35)):=l8
   have HB7:Hid (xE w6 w7):=hN
   clear l7 l8 hN
   go_wp2_with fail
   obtain⟨y,ey⟩:∃ y,y=(((w7.setCell (xD w 1 0) (J wd)).setCell (xD w 1 1) (.slice (xA ga) N ck)).setCell (xD w 1 2) (.slice (xA bl) M lk)).setCell (xD w 1 3) (.slice (xA bf) M fk):=⟨_,rfl⟩
   have r4:=heap_setCell_same _ _ 3 _ _ (.slice (xA bf) M fk) (heap_setCell_same _ _ 2 _ _ (.slice (xA bl) M lk) (heap_setCell_same _ _ 1 _ _ (.slice (xA ga) N ck) (heap_setCell_same _ _ 0 _ _ (J wd) HL8.o)))
   have hP:zaQ (fun e=>e=w.heap.size+1) w6 y:=by
    rw[ey]
    have h0:zaQ (fun e=>e=w.heap.size+1) w6 w7:=zaQ.of HB7.o
    have h1:=zaX h0 (p:=(xD w 1 0)) (v:=J wd) rfl
    have h2:=zaX h1 (p:=(xD w 1 1)) (v:=.slice (xA ga) N ck) rfl
    have h3:=zaX h2 (p:=(xD w 1 2)) (v:=.slice (xA bl) M lk) rfl
    exact zaX h3 (p:=(xD w 1 3)) (v:=.slice (xA bf) M fk) rfl
   rw[<- ey] at r4 ⊢
   clear ey q0 q1 q2 q3 t0 t1 t2 t3 d0 d1 d2 d3
   replace r4:y.heap[w.heap.size+1]?=some (.cells (xH wd (xA ga) N ck (xA bl) M lk (xA bf) M fk) 35):=by simpa using r4
   obtain⟨q0,q1,q2,q3⟩:=zav r4
   have p5:xE w y:=hP.below (HF6.o.below HB5.o (fun e q=>qg) HB5.o.size) (fun e q=>qg) qg
   have p6:=(HS6.o.off hP qg qg qg (fun j u b hj e q=>by have:=(HS6.o.rowlt hj e q).1;omega)).mono (lo':=w.heap.size) qg
   have p7:zaL y w.heap.size v (zba (fun j=>zeJ es (fs.getD j []) E) M):=zaw (zap HO6.o (fun b q1 q2=>hP.block b q1 (by have:=(World.ownsRow.lt HO6.o b q2).1;omega))) qg
   have p8:∀ b,v.ownBlock=some b->b≠ga/\b≠bl/\b≠bf:=fun b q=>by
    have:=(World.ownsRow.lt HO6.o b q).1
    omega
   have eML:ML=M:=by have:=k3;omega
   subst eML
   obtain⟨e1,e2,e3,e4⟩:=HLN.o
   refine bodyPost_ret (v:=.tuple #[.agg (xH wd (xA ga) N ck (xA bl) ML lk (xA bf) ML fk),v,.bool true]) (by simp[results,results20,go_sem,q0,q1,q2,q3]) rfl ⟨_,_,true,rfl,by unfold zbN;rw[HB.o.1,HB.o.2];rfl,p5,(fun q=>by cases q),fun _=>⟨ga,ck,bl,lk,bf,fk,aL,aF,by rw[e2,e3,e1],by unfold sM;rw[e1,e4];exact p6,by unfold sM;rw[e1,e4];exact p7,p8,by rw[e1];exact HA6.o⟩⟩
end Sp
namespace Sp
open Go.RowKit Go.Maps
attribute [local go_sem ↓] Go.wp_at_zero Go.wp_at_succ
theorem zt3(h:zii wd cs ls fs=true)(z:Int):tch fs fs.length z=zbC fs fs.length z :=
 zhu fs z fs.length fun j hj=>by
  obtain⟨_,_,q3⟩:=zij h
  rw[q3] at hj ⊢
  rw[zdc] at hj
  rw[zhP hj]
  exact zkj _ _ _
theorem zjF(wd:Int)(g l f a:Od)(gc lc fc ac:Nat)(cs:Lp)(ls:List Int)(fs:List (List Int))(es:Le)(w:World)(hM:ScM w g l f cs ls fs)(hS:zc8 cs ls fs)(hE:zgN w a es)(hn:es.length<=1048576) :
  Calls SqP.prog 22 #[.agg (xH wd g cs.length gc l ls.length lc f fs.length fc),.slice a es.length ac] w (zqc w wd cs ls fs es):=by
 obtain⟨w2,he⟩:∃ w2,w2=(w.alloc (.cells (xH wd g cs.length gc l ls.length lc f fs.length fc) 35)).alloc (.cells xF 35):=⟨_,rfl⟩
 obtain⟨x1,x2,h6⟩:=zbJ (.cells (xH wd g cs.length gc l ls.length lc f fs.length fc) 35) (.cells xF 35) w
 rw[<- he] at x1 x2 h6
 have p9:w2.heap.size=w.heap.size+2:=by rw[he];simp
 have hC:=(zl1 wd cs ls fs hS).1 g l f gc lc fc w2 (hM.below h6)
 have HCD:Hid (∀ y,ScM y g l f cs ls fs->zii wd cs ls fs=true->Calls SqP.prog 45 #[.agg (xH wd g cs.length gc l fs.length lc f fs.length fc)] y fun e x=>∃ bd ga ck bl lk bf fk bm nn hi bs arrL arrF,e=.returned (.pointer (xA bd))/\nn<=fs.length * 1000/\zeK y x wd cs.length fs.length cs bd ga ck bl lk bf fk bm nn hi bs (tch fs fs.length) arrL arrF (fun j=>ls.getD j 0) (fun j=>fs.getD j []) (fun _=>false)):=fun y hy q1=>by
  obtain⟨k1,k2,k3,k4,_,k6,_⟩:=zb1 (es:=[]) q1 qm (by simp[ziy])
  exact zmw wd g l f gc lc fc cs ls fs cs.length fs.length y hy qg qg rfl k3 rfl k4 k6
 have HK:Hid (zii wd cs ls fs=true->okG wd cs=true/\cs.length<=25/\(0<fs.length/\fs.length<=20)/\ls.length=fs.length):=fun q1=>by
  obtain⟨k1,k2,k3,k4,_,k6,_⟩:=zb1 (es:=[]) q1 qm (by simp[ziy])
  exact⟨(zij q1).1,k1.2,k2,k3⟩
 have HTC:Hid (zii wd cs ls fs=true->∀ z:Int,(tch fs fs.length z).length<=20/\∀ q:Int,q∈tch fs fs.length z ↔ ∃ j:Nat,j<fs.length/\q=(j:Int)/\z∈fs.getD j []):=fun q1 z=>by
  obtain⟨k1,k2,_⟩:=zb1 (es:=[]) q1 qm (by simp[ziy])
  rw[zt3 q1 z]
  exact⟨Nat.le_trans (zdK fs z _) k2.2,zeY fs z fs.length⟩
 obtain⟨M,h7⟩:∃ M,fs.length=M:=⟨_,rfl⟩
 obtain⟨N,hf⟩:∃ N,cs.length=N:=⟨_,rfl⟩
 obtain⟨ML,hl⟩:∃ ML,ls.length=ML:=⟨_,rfl⟩
 obtain⟨E,hw⟩:∃ E,es.length=E:=⟨_,rfl⟩
 obtain⟨b,eb⟩:∃ b,zii wd cs ls fs=b:=⟨_,rfl⟩
 have HLN:Hid (fs.length=M/\cs.length=N/\ls.length=ML/\es.length=E):=⟨h7,hf,hl,hw⟩
 have HB:Hid (zii wd cs ls fs=b):=eb
 have HM:Hid (ScM w g l f cs ls fs/\zgN w a es):=⟨hM,hE⟩
 rw[eb,h7,hf,hl] at hC
 rw[h7,hf] at HCD
 rw[hf,h7,hl] at HK
 rw[h7] at HTC
 rw[h7,hf,hl] at he x1
 rw[hw] at hn
 rw[h7,hf,hl,hw]
 obtain⟨c0,c1,c2,c3⟩:=zav x1
 have HX2:Hid (w2.heap[w.heap.size+1]?=some (.cells xF 35)):=x2
 clear hM hS hE h7 hf hl hw eb x1 x2
 by_cases hbig:20<E
 ·have hX:(20:Int)<(E:Int):=qg
  have HBG:Hid (20<E):=hbig
  have hQ:=h6.size
  clear hC HCD HK HTC hbig
  go_enter (zfx func22),ntmps22
  go_upto_region 1 with fail
  rw[<- he]
  clear he
  have t0:=thaw HX2.o 0
  have t1:=thaw HX2.o 1
  have t2:=thaw HX2.o 2
  have t3:=thaw HX2.o 3
  obtain⟨q0,q1,q2,q3⟩:=zav HX2.o
  have HNB:Hid (∀ y:World,y=((((w2.setCell (xD w 1 0) (J 0)).setCell (xD w 1 1) (.slice none 0 0)).setCell (xD w 1 2) (.slice none 0 0)).setCell (xD w 1 3) (.slice none 0 0))->xE w y/\y.heap[w.heap.size+1]?=some (.cells xF 35)):=fun y ey=>by
   have r4:=heap_setCell_same _ _ 3 _ _ (.slice none 0 0) (heap_setCell_same _ _ 2 _ _ (.slice none 0 0) (heap_setCell_same _ _ 1 _ _ (.slice none 0 0) (heap_setCell_same _ _ 0 _ _ (J 0) HX2.o)))
   have h8:xE w ((((w2.setCell (xD w 1 0) (J 0)).setCell (xD w 1 1) (.slice none 0 0)).setCell (xD w 1 2) (.slice none 0 0)).setCell (xD w 1 3) (.slice none 0 0)):=(((h6.setCell (by show _<=w.heap.size+1;omega) _).setCell (by show _<=w.heap.size+1;omega) _).setCell (by show _<=w.heap.size+1;omega) _).setCell (by show _<=w.heap.size+1;omega) _
   rw[<- ey] at h8 r4
   exact⟨h8,by simpa using r4⟩
  clear h6
  go_wp2_with fail
  obtain⟨y,ey⟩:∃ y,y=((((w2.setCell (xD w 1 0) (J 0)).setCell (xD w 1 1) (.slice none 0 0)).setCell (xD w 1 2) (.slice none 0 0)).setCell (xD w 1 3) (.slice none 0 0)):=⟨_,rfl⟩
  rw[<- ey]
  obtain⟨hp,hs⟩:=HNB.o y ey
  clear ey q0 q1 q2 q3 t0 t1 t2 t3
  obtain⟨q0,q1,q2,q3⟩:=zav hs
  refine bodyPost_ret (v:=.tuple #[.agg xF,.slice none 0 0,.bool false]) (by simp[results,results22,go_sem,q0,q1,q2,q3]) rfl ⟨_,_,false,rfl,by have h1:=HLN.o.2.2.2;have h2:=HBG.o;have h3:¬ es.length<=20:=qg;simp[zbN,h3],hp,fun _=>⟨rfl,zfq _ _⟩,fun q=>by cases q⟩
 ·have hX:¬ (20:Int)<(E:Int):=qg
  go_enter (zfx func22),ntmps22
  go_upto_region 1 with fail
  rw[<- he]
  clear he
  go_wp2_with fail
  refine hC.mono ?_
  rintro e w3 ⟨rfl,hg⟩
  have hB:=zae h6 h6.size hg
  replace c0:=zaa hg c0;replace c1:=zaa hg c1;replace c2:=zaa hg c2;replace c3:=zaa hg c3
  have HY2:Hid (w3.heap[w.heap.size+1]?=some (.cells xF 35)):=(hg.block _ qg).trans HX2.o
  clear hg hC h6 HX2
  rcases b with _|_
  ·clear c0 c1 c2 c3 HCD HK HTC
   have hQ:=hB.size
   have t0:=thaw HY2.o 0
   have t1:=thaw HY2.o 1
   have t2:=thaw HY2.o 2
   have t3:=thaw HY2.o 3
   obtain⟨q0,q1,q2,q3⟩:=zav HY2.o
   have HNB:Hid (∀ y:World,y=((((w3.setCell (xD w 1 0) (J 0)).setCell (xD w 1 1) (.slice none 0 0)).setCell (xD w 1 2) (.slice none 0 0)).setCell (xD w 1 3) (.slice none 0 0))->xE w y/\y.heap[w.heap.size+1]?=some (.cells xF 35)):=fun y ey=>by
    have r4:=heap_setCell_same _ _ 3 _ _ (.slice none 0 0) (heap_setCell_same _ _ 2 _ _ (.slice none 0 0) (heap_setCell_same _ _ 1 _ _ (.slice none 0 0) (heap_setCell_same _ _ 0 _ _ (J 0) HY2.o)))
    have h8:xE w ((((w3.setCell (xD w 1 0) (J 0)).setCell (xD w 1 1) (.slice none 0 0)).setCell (xD w 1 2) (.slice none 0 0)).setCell (xD w 1 3) (.slice none 0 0)):=(((hB.setCell (by show _<=w.heap.size+1;omega) _).setCell (by show _<=w.heap.size+1;omega) _).setCell (by show _<=w.heap.size+1;omega) _).setCell (by show _<=w.heap.size+1;omega) _
    rw[<- ey] at h8 r4
    exact⟨h8,by simpa using r4⟩
   clear hB
   go_wp2_with fail
   obtain⟨y,ey⟩:∃ y,y=((((w3.setCell (xD w 1 0) (J 0)).setCell (xD w 1 1) (.slice none 0 0)).setCell (xD w 1 2) (.slice none 0 0)).setCell (xD w 1 3) (.slice none 0 0)):=⟨_,rfl⟩
   rw[<- ey]
   obtain⟨hp,hs⟩:=HNB.o y ey
   clear ey q0 q1 q2 q3 t0 t1 t2 t3
   obtain⟨q0,q1,q2,q3⟩:=zav hs
   refine bodyPost_ret (v:=.tuple #[.agg xF,.slice none 0 0,.bool false]) (by simp[results,results22,go_sem,q0,q1,q2,q3]) rfl ⟨_,_,false,rfl,by unfold zbN;rw[HB.o];rfl,hp,fun _=>⟨rfl,zfq _ _⟩,fun q=>by cases q⟩
  ·obtain⟨k0,k1,k2,k3⟩:=HK.o HB.o
   obtain rfl:M=ML:=k3.symm
   have hT:=HCD.o w3 (HM.o.1.below hB) HB.o
   have HG:Hid (okG wd cs=true):=k0
   have HTZ:Hid (∀ z:Int,(tch fs M z).length<=20/\∀ q:Int,q∈tch fs M z ↔ ∃ j:Nat,j<M/\q=(j:Int)/\z∈fs.getD j []):=HTC.o HB.o
   have hQ:=hB.size
   clear HCD k0 HK HTC
   go_wp2_with fail
   refine hT.mono ?_
   rintro e w4 ⟨bd,ga,ck,bl,lk,bf,fk,bm,nn,hi,bs,arrL,arrF,rfl,pa,hD⟩
   have HD0:Hid (zeK w3 w4 wd N M (zbQ cs es 0) bd ga ck bl lk bf fk bm nn hi bs (tch fs M) arrL arrF (fun j=>ls.getD j 0) (fun j=>fs.getD j []) (fun j=>zeJ es (fs.getD j []) 0)):=hD
   have HBW:Hid (xE w w3):=hB
   clear hD hB hT c0 c1 c2 c3
   go_wp2_with fail
   go_loopw [24] (fun ii wr=>∃ (i ga ck:Nat),i<=E/\ii=J i/\zeK w3 wr wd N M (zbQ cs es i) bd ga ck bl lk bf fk bm nn hi bs (tch fs M) arrL arrF (fun j=>ls.getD j 0) (fun j=>fs.getD j []) (fun j=>zeJ es (fs.getD j []) i)/\okG wd (zbQ cs es i)=true/\∀ j,j<i->(inP (es.getD j (0,0,0)).1 cs.length && okC (es.getD j (0,0,0)).2.1 (es.getD j (0,0,0)).2.2)=true) (fun ii _=>E - (intOf ii).toNat)
   case atStart=>exact⟨0,_,_,Nat.zero_le _,rfl,HD0.o,HG.o,fun j hj=>qg⟩
   case round =>
    rename World=>wr
    clear HD0
    obtain⟨i,ga,ck,pb,rfl,hD,hz,h9⟩:=hrel
    have hk:xE w wr:=zae HBW.o HBW.o.size hD.below
    have HYr:Hid (wr.heap[w.heap.size+1]?=some (.cells xF 35)):=(hD.below.block _ (gei HY2.o).1).trans HY2.o
    have hY:=(gei HYr.o).1
    by_cases hlt:i<E
    ·obtain⟨eb,eo,z,zk,zl,rfl,ez,y0,y1,y2⟩:=(HM.o.2.below hk).at (i:=i) (by have:=HLN.o.2.2.2;omega)
     have p6:(i:Int)<(E:Int):=qg
     have wk:IntKind.i64.wrap ((i:Int)+1)=(i:Int)+1:=IntWalk.i64_in _ qg
     have hG:(zbQ cs es i).length=N:=by rw[zby];exact HLN.o.2.1
     have hu:xE wr (wr.alloc (.cells #[J z,J zk,J zl] 50)):=(Below.refl _ _).alloc (Nat.le_refl _) _
     have hA:=hD.go hu
     have HZ:Hid (es.getD i (0,0,0)=(z,zk,zl)):=ez
     have HAL:Hid (okG wd (zbQ cs es i)=true/\∀ j,j<i->(inP (es.getD j (0,0,0)).1 cs.length && okC (es.getD j (0,0,0)).2.1 (es.getD j (0,0,0)).2.2)=true):=⟨hz,h9⟩
     have HB5:Hid (xE w (wr.alloc (.cells #[J z,J zk,J zl] 50))):=zae hk hk.size hu
     have HY5:Hid ((wr.alloc (.cells #[J z,J zk,J zl] 50)).heap[w.heap.size+1]?=some (.cells xF 35)):=(hu.block _ hY).trans HYr.o
     obtain⟨cp,ecp⟩:∃ cp,zeb wd (zbQ cs es i) z zk zl=cp:=⟨_,rfl⟩
     rcases cp with _|_
     ·have hP:=ztM hA z zk zl hG qg ecp
      have HNO:Hid (zbN wd cs ls fs es=false):=by
       have e1:(inP (es.getD i (0,0,0)).1 cs.length && okC (es.getD i (0,0,0)).2.1 (es.getD i (0,0,0)).2.2)=false:=by
        rw[HZ.o]
        unfold zeb at ecp
        rw[HAL.o.1,zby,Bool.true_and,Bool.and_comm] at ecp
        exact ecp
       have e2:=zka (n:=cs.length) (i:=i) (by have:=HLN.o.2.2.2;omega) e1
       show _=_
       unfold zbN
       rw[e2]
       simp
      clear hA hD hz h9 ez ecp hk HYr hu HAL
      go_upto_region 7 with fail
      obtain⟨w5,h5⟩:∃ w5,w5=wr.alloc (.cells #[J z,J zk,J zl] 50):=⟨_,rfl⟩
      have v0:w5.cell? (xC wr 0)=some (J z):=by rw[h5];exact(cell_of_row _ _ 0 _ _ _ (heap_alloc_new wr _)).trans rfl
      have v1:w5.cell? (xC wr 1)=some (J zk):=by rw[h5];exact(cell_of_row _ _ 1 _ _ _ (heap_alloc_new wr _)).trans rfl
      have v2:w5.cell? (xC wr 2)=some (J zl):=by rw[h5];exact(cell_of_row _ _ 2 _ _ _ (heap_alloc_new wr _)).trans rfl
      rw[<- h5] at hP HB5 HY5 ⊢
      clear h5 y0 y1 y2
      go_wp2_with fail
      refine hP.mono ?_
      rintro e w6 ⟨rfl,hJ⟩
      have hU:=zae HB5.o HB5.o.size hJ
      have HY6:Hid (w6.heap[w.heap.size+1]?=some (.cells xF 35)):=(hJ.block _ (gei HY5.o).1).trans HY5.o
      clear hP v0 v1 v2 hJ HB5 HY5
      have t0:=thaw HY6.o 0
      have t1:=thaw HY6.o 1
      have t2:=thaw HY6.o 2
      have t3:=thaw HY6.o 3
      obtain⟨q0,q1,q2,q3⟩:=zav HY6.o
      have HNB:Hid (∀ y:World,y=((((w6.setCell (xD w 1 0) (J 0)).setCell (xD w 1 1) (.slice none 0 0)).setCell (xD w 1 2) (.slice none 0 0)).setCell (xD w 1 3) (.slice none 0 0))->xE w y/\y.heap[w.heap.size+1]?=some (.cells xF 35)):=fun y ey=>by
       have r4:=heap_setCell_same _ _ 3 _ _ (.slice none 0 0) (heap_setCell_same _ _ 2 _ _ (.slice none 0 0) (heap_setCell_same _ _ 1 _ _ (.slice none 0 0) (heap_setCell_same _ _ 0 _ _ (J 0) HY6.o)))
       have h8:xE w ((((w6.setCell (xD w 1 0) (J 0)).setCell (xD w 1 1) (.slice none 0 0)).setCell (xD w 1 2) (.slice none 0 0)).setCell (xD w 1 3) (.slice none 0 0)):=(((hU.setCell (by show _<=w.heap.size+1;omega) _).setCell (by show _<=w.heap.size+1;omega) _).setCell (by show _<=w.heap.size+1;omega) _).setCell (by show _<=w.heap.size+1;omega) _
       rw[<- ey] at h8 r4
       exact⟨h8,by simpa using r4⟩
      clear hU
      go_wp2_with fail
      obtain⟨y,ey⟩:∃ y,y=((((w6.setCell (xD w 1 0) (J 0)).setCell (xD w 1 1) (.slice none 0 0)).setCell (xD w 1 2) (.slice none 0 0)).setCell (xD w 1 3) (.slice none 0 0)):=⟨_,rfl⟩
      rw[<- ey]
      obtain⟨hp,hs⟩:=HNB.o y ey
      clear ey q0 q1 q2 q3 t0 t1 t2 t3
      obtain⟨q0,q1,q2,q3⟩:=zav hs
      refine bodyPost_ret (v:=.tuple #[.agg xF,.slice none 0 0,.bool false]) (by simp[results,results22,go_sem,q0,q1,q2,q3]) rfl ⟨_,_,false,rfl,HNO.o.symm,hp,fun _=>⟨rfl,zfq _ _⟩,fun q=>by cases q⟩
     ·have ecp2:=ecp
      simp only[zeb,Bool.and_eq_true,decide_eq_true_eq] at ecp2
      have hP:=zs2 hA z zk zl hG qg qg (by rw[<- hG];exact ecp2.2.2) ecp (fun q hq=>let ⟨j,h1,h2,_⟩:=((HTZ.o z).2 q).1 hq;⟨j,h1,h2⟩) (by have:=(HTZ.o z).1;omega)
      have HCP:Hid (okC zk zl=true/\0<=z/\z<((zbQ cs es i).length:Int)):=ecp2.2
      clear hA hD hz h9 ez ecp ecp2 hk HYr hu
      go_upto_region 7 with fail
      obtain⟨w5,h5⟩:∃ w5,w5=wr.alloc (.cells #[J z,J zk,J zl] 50):=⟨_,rfl⟩
      have v0:w5.cell? (xC wr 0)=some (J z):=by rw[h5];exact(cell_of_row _ _ 0 _ _ _ (heap_alloc_new wr _)).trans rfl
      have v1:w5.cell? (xC wr 1)=some (J zk):=by rw[h5];exact(cell_of_row _ _ 1 _ _ _ (heap_alloc_new wr _)).trans rfl
      have v2:w5.cell? (xC wr 2)=some (J zl):=by rw[h5];exact(cell_of_row _ _ 2 _ _ _ (heap_alloc_new wr _)).trans rfl
      rw[<- h5] at hP HB5 HY5 ⊢
      clear h5 y0 y1 y2
      go_wp2_with fail
      refine hP.mono ?_
      rintro e w6 ⟨g2,rfl,hK⟩
      have HD6:Hid (zeK w3 w6 wd N M (zbQ cs es (i+1)) bd g2 N bl lk bf fk bm nn hi bs (tch fs M) arrL arrF (fun j=>ls.getD j 0) (fun j=>fs.getD j []) (fun j=>zeJ es (fs.getD j []) (i+1))):=by
       have e1:(zbQ cs es i).set z.toNat (zk,zl)=zbQ cs es (i+1):=by
        show _=(zbQ cs es i).set (es.getD i (0,0,0)).1.toNat (es.getD i (0,0,0)).2
        rw[HZ.o]
       rw[e1] at hK
       exact hK.like fun j hj=>by
        show (zeJ es (fs.getD j []) i || decide ((es.getD i (0,0,0)).1∈fs.getD j []))=_
        rw[HZ.o]
        congr 1
        rw[Bool.eq_iff_iff]
        simp only[decide_eq_true_eq]
        rw[(HTZ.o z).2]
        constructor
        ·exact fun h=>⟨j,hj,rfl,h⟩
        ·rintro⟨j',h1,h2,h3⟩
         have:j=j':=qg
         rw[this]
         exact h3
      have HA6:Hid (okG wd (zbQ cs es (i+1))=true/\∀ j,j<i+1->(inP (es.getD j (0,0,0)).1 cs.length && okC (es.getD j (0,0,0)).2.1 (es.getD j (0,0,0)).2.2)=true):=by
       refine⟨zo1 HAL.o.1 _ (by rw[HZ.o];exact HCP.o.1),fun j hj=>?_⟩
       by_cases q:j=i
       ·rw[q,HZ.o]
        have:=HCP.o.2
        rw[zby] at this
        simp[inP,HCP.o.1,this]
       ·exact HAL.o.2 j qg
      clear hP hK v0 v1 v2 HB5 HY5 HAL
      go_wp2_with fail
      go_roundw
      case rel=>exact⟨i+1,g2,N,qg,by go_num,HD6.o,HA6.o.1,HA6.o.2⟩
      case measure=>exact qe
    ·have pc:¬ (i:Int)<(E:Int):=qg
     obtain rfl:i=E:=qg
     have hL:=zjc hD (by rw[zby];exact HLN.o.2.1) qg qg
     have HOK:Hid (zbN wd cs ls fs es=true):=by
      have e4:=HLN.o.2.2.2
      have e1:=zlz (n:=cs.length) (es:=es) (fun j hj=>h9 j qg)
      have e2:es.length<=20:=qg
      show _=_
      unfold zbN
      rw[HB.o,e1,decide_eq_true e2]
      rfl
     have HBr:Hid (xE w wr):=hk
     clear hD hz h9 hk
     go_wp2_with fail
     refine hL.mono ?_
     rintro e w7 ⟨v,aL,aF,rfl,h4,hV,hF⟩
     have l8:=(h4.below.block _ (gei HY2.o).1).trans HY2.o
     have d0:=(cell_of_row _ _ 0 _ _ _ h4.box).trans rfl
     have d1:=(cell_of_row _ _ 1 _ _ _ h4.box).trans rfl
     have d2:=(cell_of_row _ _ 2 _ _ _ h4.box).trans rfl
     have d3:=(cell_of_row _ _ 3 _ _ _ h4.box).trans rfl
     obtain⟨q0,q1,q2,q3⟩:=zav l8
     have t0:=thaw l8 0
     have t1:=thaw l8 1
     have t2:=thaw l8 2
     have t3:=thaw l8 3
     have HL8:Hid (w7.heap[w.heap.size+1]?=some (.cells xF 35)):=l8
     have HBL:Hid (xE w3 w7):=h4.below
     have HS7:Hid (ScE w3.heap.size w7 (zbQ cs es i) M ga ck bl bf aL aF (doL wd (zbQ cs es i) (fun j=>ls.getD j 0) (fun j=>zeJ es (fs.getD j []) i) M) (doF wd (zbQ cs es i) (fun j=>fs.getD j []) (fun j=>zeJ es (fs.getD j []) i) M)):=h4.sc
     have HO7:Hid (zaL w7 wr.heap.size v (zba (fun j=>zeJ es (fs.getD j []) i) M)):=hV
     have HA7:Hid (∀ j u b,j<M->aF[j]?=some u->u.ownBlock=some b->v.ownBlock≠some b):=hF
     have p7:=h4.lt
     have p8:=h4.sc.lt
     have pd:=(gei HY2.o).1
     have pe:=h4.size
     have n8:bd≠w.heap.size+1:=by have:=h4.ge;omega
     clear h4 hV hF hL l8
     go_wp2_with fail
     obtain⟨y,ey⟩:∃ y,y=((((w7.setCell (xD w 1 0) (J wd)).setCell (xD w 1 1) (.slice (xA ga) N ck)).setCell (xD w 1 2) (.slice (xA bl) M lk)).setCell (xD w 1 3) (.slice (xA bf) M fk)):=⟨_,rfl⟩
     have r4:=heap_setCell_same _ _ 3 _ _ (.slice (xA bf) M fk) (heap_setCell_same _ _ 2 _ _ (.slice (xA bl) M lk) (heap_setCell_same _ _ 1 _ _ (.slice (xA ga) N ck) (heap_setCell_same _ _ 0 _ _ (J wd) HL8.o)))
     have hN:zaQ (fun e=>e=w.heap.size+1) w7 y:=by
      rw[ey]
      have h0:zaQ (fun e=>e=w.heap.size+1) w7 w7:=zaQ.refl _ _
      have h1:=zaX h0 (p:=(xD w 1 0)) (v:=J wd) rfl
      have h2:=zaX h1 (p:=(xD w 1 1)) (v:=.slice (xA ga) N ck) rfl
      have h3:=zaX h2 (p:=(xD w 1 2)) (v:=.slice (xA bl) M lk) rfl
      exact zaX h3 (p:=(xD w 1 3)) (v:=.slice (xA bf) M fk) rfl
     rw[<- ey] at r4 ⊢
     clear ey q0 q1 q2 q3 t0 t1 t2 t3 d0 d1 d2 d3
     replace r4:y.heap[w.heap.size+1]?=some (.cells (xH wd (xA ga) N ck (xA bl) M lk (xA bf) M fk) 35):=by simpa using r4
     obtain⟨q0,q1,q2,q3⟩:=zav r4
     have hZ:xE w y:=hN.below (zae HBW.o HBW.o.size HBL.o) (fun e q=>qg) (by have:=HBL.o.size;omega)
     have p0:=(HS7.o.off hN qg qg qg (fun j u b hj e q=>by have:=(HS7.o.rowlt hj e q).1;omega)).mono (lo':=w.heap.size) qg
     have p1:zaL y w.heap.size v (zba (fun j=>zeJ es (fs.getD j []) i) M):=zaw (zap HO7.o (fun b q1 q2=>hN.block b q1 (by have:=(World.ownsRow.lt HO7.o b q2).1;omega))) qg
     have p5:∀ b,v.ownBlock=some b->b≠ga/\b≠bl/\b≠bf:=fun b q=>by
      have:=(World.ownsRow.lt HO7.o b q).1
      omega
     obtain⟨e1,e2,e3,e4⟩:=HLN.o
     refine bodyPost_ret (v:=.tuple #[.agg (xH wd (xA ga) N ck (xA bl) M lk (xA bf) M fk),v,.bool true]) (by simp[results,results22,go_sem,q0,q1,q2,q3]) rfl ⟨_,_,true,rfl,HOK.o.symm,hZ,(fun q=>by cases q),fun _=>⟨ga,ck,bl,lk,bf,fk,aL,aF,by rw[e2,e3,e1],by unfold sM;rw[e1,e4];exact p0,by unfold sM;rw[e1,e4];exact p1,p5,by rw[e1];exact HA7.o⟩⟩
theorem zjE(wd:Int)(g l f:Od)(gc lc fc:Nat)(cs:Lp)(ls:List Int)(fs:List (List Int))(z k l2:Int)(w:World)(hM:ScM w g l f cs ls fs)(hS:zc8 cs ls fs) :
  Calls SqP.prog 15 #[.agg (xH wd g cs.length gc l ls.length lc f fs.length fc),.agg #[J z,J k,J l2]] w (zqc w wd cs ls fs [(z,k,l2)]):=by
 have hC:Hid (∀ y a,ScM y g l f cs ls fs->zgN y a [(z,k,l2)]->Calls SqP.prog 20 #[.agg (xH wd g cs.length gc l ls.length lc f fs.length fc),.slice a 1 1] y (zqc y wd cs ls fs [(z,k,l2)])):=fun y a hy he=>zjG wd g l f a gc lc fc 1 cs ls fs [(z,k,l2)] y hy hS he qm
 obtain⟨M,hf⟩:∃ M,fs.length=M:=⟨_,rfl⟩
 obtain⟨N,hg⟩:∃ N,cs.length=N:=⟨_,rfl⟩
 obtain⟨ML,hk⟩:∃ ML,ls.length=ML:=⟨_,rfl⟩
 rw[hf,hg,hk] at hC ⊢
 have HLN:Hid (fs.length=M/\cs.length=N/\ls.length=ML):=⟨hf,hg,hk⟩
 obtain⟨w2,h7⟩:∃ w2,w2=((w.alloc (.cells (xH wd g N gc l ML lc f M fc) 35)).alloc (.cells #[J z,J k,J l2] 50)).alloc (.cells xF 35):=⟨_,rfl⟩
 have hD:w2.heap.size=w.heap.size+3:=by rw[h7];simp
 obtain⟨x1,x2,x3,_,h5⟩:=zcn (.cells (xH wd g N gc l ML lc f M fc) 35) (.cells #[J z,J k,J l2] 50) (.cells xF 35) w
 rw[<- h7] at x1 x2 x3 h5
 obtain⟨rb,erb⟩:∃ rb,rb=w.heap.size+1+1:=⟨_,rfl⟩
 replace x3:w2.heap[rb]?=some (.cells xF 35):=by rw[erb];exact x3
 have hF:w.heap.size+2<=rb/\rb<=w.heap.size+2:=qg
 obtain⟨c0,c1,c2,c3⟩:=zav x1
 have e0:=(cell_of_row _ _ 0 _ _ _ x2).trans rfl
 have e1:=(cell_of_row _ _ 1 _ _ _ x2).trans rfl
 have e2:=(cell_of_row _ _ 2 _ _ _ x2).trans rfl
 have h8:xE w2 (w2.alloc (.cells #[J z,J k,J l2] 50)):=(Below.refl _ _).alloc (Nat.le_refl _) _
 have h9:=heap_alloc_new w2 (.cells #[J z,J k,J l2] 50)
 have HD:Hid (zgN (w2.alloc (.cells #[J z,J k,J l2] 50)) (xA w2.heap.size) [(z,k,l2)]):=.inr ⟨w2.heap.size,0,rfl,qm,fun i hi=>by
  have:i=0:=by simp at hi;omega
  subst this
  exact⟨(cell_of_row _ _ 0 _ _ _ h9).trans rfl,(cell_of_row _ _ 1 _ _ _ h9).trans rfl,(cell_of_row _ _ 2 _ _ _ h9).trans rfl⟩⟩
 have HM3:Hid (ScM (w2.alloc (.cells #[J z,J k,J l2] 50)) g l f cs ls fs):=(hM.below h5).below h8
 have HB3:Hid (xE w (w2.alloc (.cells #[J z,J k,J l2] 50))):=zae h5 h5.size h8
 have HR3:Hid ((w2.alloc (.cells #[J z,J k,J l2] 50)).heap[rb]?=some (.cells xF 35)):=(h8.block _ qg).trans x3
 clear hf hg hk hM hS h5 x1 x2 x3 h8 h9
 go_enter (zfx func15),ntmps15
 go_upto_region 1 with fail
 rw[<- h7,<- erb]
 clear h7 erb
 go_wp2_with fail
 rw[hD] at HD
 refine(hC.out _ _ HM3.o HD.o).mono ?_
 obtain⟨w3,hl⟩:∃ w3,w3=w2.alloc (.cells #[J z,J k,J l2] 50):=⟨_,rfl⟩
 have hG:w3.heap.size=w.heap.size+4:=by rw[hl];simp;omega
 rw[<- hl] at HB3 HR3 ⊢
 clear hl HD HM3 hC
 rintro e w4 ⟨x,v,b,rfl,eb,hp,hq,h6⟩
 have HB4:Hid (xE w3 w4):=hp
 have HR:Hid (w4.heap[rb]?=some (.cells xF 35)):=(hp.block _ qg).trans HR3.o
 obtain⟨q0,q1,q2,q3⟩:=zav HR.o
 have t0:=thaw HR.o 0
 have t1:=thaw HR.o 1
 have t2:=thaw HR.o 2
 have t3:=thaw HR.o 3
 have EB:Hid (b=zbN wd cs ls fs [(z,k,l2)]):=eb
 clear c0 c1 c2 c3 e0 e1 e2 hp eb
 rcases b with _|_
 ·obtain⟨rfl,hO⟩:=hq rfl
  have HO:Hid (zaL w4 w3.heap.size v []):=hO
  clear hq h6 hO
  go_wp2_with fail
  obtain⟨y,ey⟩:∃ y,y=((((w4.setCell (O rb 0) (J 0)).setCell (O rb 1) (.slice none 0 0)).setCell (O rb 2) (.slice none 0 0)).setCell (O rb 3) (.slice none 0 0)):=⟨_,rfl⟩
  have r4:=heap_setCell_same _ _ 3 _ _ (.slice none 0 0) (heap_setCell_same _ _ 2 _ _ (.slice none 0 0) (heap_setCell_same _ _ 1 _ _ (.slice none 0 0) (heap_setCell_same _ _ 0 _ _ (J 0) HR.o)))
  have h4:zaQ (fun e=>e=rb) w4 y:=by
   rw[ey]
   have h0:zaQ (fun e=>e=rb) w4 w4:=zaQ.refl _ _
   have h1:=zaX h0 (p:=(O rb 0)) (v:=(J 0)) rfl
   have h2:=zaX h1 (p:=(O rb 1)) (v:=(.slice none 0 0)) rfl
   have h3:=zaX h2 (p:=(O rb 2)) (v:=(.slice none 0 0)) rfl
   exact zaX h3 (p:=(O rb 3)) (v:=(.slice none 0 0)) rfl
  rw[<- ey] at r4 ⊢
  clear ey q0 q1 q2 q3 t0 t1 t2 t3
  replace r4:y.heap[rb]?=some (.cells xF 35):=by simpa using r4
  obtain⟨q0,q1,q2,q3⟩:=zav r4
  have hs:xE w y:=h4.below (zae HB3.o HB3.o.size HB4.o) (fun e q=>qg) (by have:=HB4.o.size;omega)
  have hu:zaL y w.heap.size v []:=zaw (zap HO.o (fun b q1 q2=>h4.block b q1 (by have:=(World.ownsRow.lt HO.o b q2).1;omega))) qg
  refine bodyPost_ret (v:=.tuple #[.agg xF,v,.bool false]) (by simp[results,results15,go_sem,q0,q1,q2,q3]) rfl ⟨_,_,false,rfl,EB.o,hs,(fun _=>⟨rfl,hu⟩),fun q=>by cases q⟩
 ·obtain⟨ga,ck,bl,lk,bf,fk,arrL,arrF,rfl,hw,hO,hz,hA⟩:=h6 rfl
  have hJ:=hw.lt
  have HS:Hid (ScE w3.heap.size w4 (zbQ cs [(z,k,l2)] 1) fs.length ga ck bl bf arrL arrF (doL wd (zbQ cs [(z,k,l2)] 1) (fun j=>ls.getD j 0) (sM fs [(z,k,l2)]) fs.length) (doF wd (zbQ cs [(z,k,l2)] 1) (fun j=>fs.getD j []) (sM fs [(z,k,l2)]) fs.length)):=hw
  have HO:Hid (zaL w4 w3.heap.size v (zba (sM fs [(z,k,l2)]) fs.length)):=hO
  have HN:Hid ((∀ b,v.ownBlock=some b->b≠ga/\b≠bl/\b≠bf)/\∀ j u b,j<fs.length->arrF[j]?=some u->u.ownBlock=some b->v.ownBlock≠some b):=⟨hz,hA⟩
  clear hq h6 hw hO hz hA
  go_wp2_with fail
  obtain⟨y,ey⟩:∃ y,y=((((w4.setCell (O rb 0) (J wd)).setCell (O rb 1) (.slice (xA ga) cs.length ck)).setCell (O rb 2) (.slice (xA bl) ls.length lk)).setCell (O rb 3) (.slice (xA bf) fs.length fk)):=⟨_,rfl⟩
  have r4:=heap_setCell_same _ _ 3 _ _ (.slice (xA bf) fs.length fk) (heap_setCell_same _ _ 2 _ _ (.slice (xA bl) ls.length lk) (heap_setCell_same _ _ 1 _ _ (.slice (xA ga) cs.length ck) (heap_setCell_same _ _ 0 _ _ (J wd) HR.o)))
  have h4:zaQ (fun e=>e=rb) w4 y:=by
   rw[ey]
   have h0:zaQ (fun e=>e=rb) w4 w4:=zaQ.refl _ _
   have h1:=zaX h0 (p:=(O rb 0)) (v:=(J wd)) rfl
   have h2:=zaX h1 (p:=(O rb 1)) (v:=(.slice (xA ga) cs.length ck)) rfl
   have h3:=zaX h2 (p:=(O rb 2)) (v:=(.slice (xA bl) ls.length lk)) rfl
   exact zaX h3 (p:=(O rb 3)) (v:=(.slice (xA bf) fs.length fk)) rfl
  rw[<- ey] at r4 ⊢
  clear ey q0 q1 q2 q3 t0 t1 t2 t3
  replace r4:y.heap[rb]?=some (.cells (xH wd (xA ga) cs.length ck (xA bl) ls.length lk (xA bf) fs.length fk) 35):=by simpa using r4
  obtain⟨q0,q1,q2,q3⟩:=zav r4
  have hs:xE w y:=h4.below (zae HB3.o HB3.o.size HB4.o) (fun e q=>qg) (by have:=HB4.o.size;omega)
  have hE:=(HS.o.off h4 qg qg qg (fun j u b hj e q=>by have:=(HS.o.rowlt hj e q).1;omega)).mono (lo':=w.heap.size) qg
  have hu:=zaw (B':=w.heap.size) (zap HO.o (fun b q1 q2=>h4.block b q1 (by have:=(World.ownsRow.lt HO.o b q2).1;omega))) qg
  refine bodyPost_ret (v:=.tuple #[.agg (xH wd (xA ga) cs.length ck (xA bl) ls.length lk (xA bf) fs.length fk),v,.bool true]) (by simp[results,results15,go_sem,q0,q1,q2,q3]) rfl ⟨_,_,true,rfl,EB.o,hs,(fun q=>by cases q),fun _=>⟨ga,ck,bl,lk,bf,fk,arrL,arrF,rfl,hE,hu,HN.o.1,HN.o.2⟩⟩
theorem zjD(wd:Int)(g l f:Od)(gc lc fc:Nat)(cs:Lp)(ls:List Int)(fs:List (List Int))(z k l2:Int)(w:World)(hM:ScM w g l f cs ls fs)(hS:zc8 cs ls fs) :
  Calls SqP.prog 17 #[.agg (xH wd g cs.length gc l ls.length lc f fs.length fc),.agg #[J z,J k,J l2]] w (zqc w wd cs ls fs [(z,k,l2)]):=by
 have hC:Hid (∀ y a,ScM y g l f cs ls fs->zgN y a [(z,k,l2)]->Calls SqP.prog 22 #[.agg (xH wd g cs.length gc l ls.length lc f fs.length fc),.slice a 1 1] y (zqc y wd cs ls fs [(z,k,l2)])):=fun y a hy he=>zjF wd g l f a gc lc fc 1 cs ls fs [(z,k,l2)] y hy hS he qm
 obtain⟨M,hf⟩:∃ M,fs.length=M:=⟨_,rfl⟩
 obtain⟨N,hg⟩:∃ N,cs.length=N:=⟨_,rfl⟩
 obtain⟨ML,hk⟩:∃ ML,ls.length=ML:=⟨_,rfl⟩
 rw[hf,hg,hk] at hC ⊢
 have HLN:Hid (fs.length=M/\cs.length=N/\ls.length=ML):=⟨hf,hg,hk⟩
 obtain⟨w2,h7⟩:∃ w2,w2=((w.alloc (.cells (xH wd g N gc l ML lc f M fc) 35)).alloc (.cells #[J z,J k,J l2] 50)).alloc (.cells xF 35):=⟨_,rfl⟩
 have hD:w2.heap.size=w.heap.size+3:=by rw[h7];simp
 obtain⟨x1,x2,x3,_,h5⟩:=zcn (.cells (xH wd g N gc l ML lc f M fc) 35) (.cells #[J z,J k,J l2] 50) (.cells xF 35) w
 rw[<- h7] at x1 x2 x3 h5
 obtain⟨rb,erb⟩:∃ rb,rb=w.heap.size+1+1:=⟨_,rfl⟩
 replace x3:w2.heap[rb]?=some (.cells xF 35):=by rw[erb];exact x3
 have hF:w.heap.size+2<=rb/\rb<=w.heap.size+2:=qg
 obtain⟨c0,c1,c2,c3⟩:=zav x1
 have e0:=(cell_of_row _ _ 0 _ _ _ x2).trans rfl
 have e1:=(cell_of_row _ _ 1 _ _ _ x2).trans rfl
 have e2:=(cell_of_row _ _ 2 _ _ _ x2).trans rfl
 have h8:xE w2 (w2.alloc (.cells #[J z,J k,J l2] 50)):=(Below.refl _ _).alloc (Nat.le_refl _) _
 have h9:=heap_alloc_new w2 (.cells #[J z,J k,J l2] 50)
 have HD:Hid (zgN (w2.alloc (.cells #[J z,J k,J l2] 50)) (xA w2.heap.size) [(z,k,l2)]):=.inr ⟨w2.heap.size,0,rfl,qm,fun i hi=>by
  have:i=0:=by simp at hi;omega
  subst this
  exact⟨(cell_of_row _ _ 0 _ _ _ h9).trans rfl,(cell_of_row _ _ 1 _ _ _ h9).trans rfl,(cell_of_row _ _ 2 _ _ _ h9).trans rfl⟩⟩
 have HM3:Hid (ScM (w2.alloc (.cells #[J z,J k,J l2] 50)) g l f cs ls fs):=(hM.below h5).below h8
 have HB3:Hid (xE w (w2.alloc (.cells #[J z,J k,J l2] 50))):=zae h5 h5.size h8
 have HR3:Hid ((w2.alloc (.cells #[J z,J k,J l2] 50)).heap[rb]?=some (.cells xF 35)):=(h8.block _ qg).trans x3
 clear hf hg hk hM hS h5 x1 x2 x3 h8 h9
 go_enter (zfx func17),ntmps17
 go_upto_region 1 with fail
 rw[<- h7,<- erb]
 clear h7 erb
 go_wp2_with fail
 rw[hD] at HD
 refine(hC.out _ _ HM3.o HD.o).mono ?_
 obtain⟨w3,hl⟩:∃ w3,w3=w2.alloc (.cells #[J z,J k,J l2] 50):=⟨_,rfl⟩
 have hG:w3.heap.size=w.heap.size+4:=by rw[hl];simp;omega
 rw[<- hl] at HB3 HR3 ⊢
 clear hl HD HM3 hC
 rintro e w4 ⟨x,v,b,rfl,eb,hp,hq,h6⟩
 have HB4:Hid (xE w3 w4):=hp
 have HR:Hid (w4.heap[rb]?=some (.cells xF 35)):=(hp.block _ qg).trans HR3.o
 obtain⟨q0,q1,q2,q3⟩:=zav HR.o
 have t0:=thaw HR.o 0
 have t1:=thaw HR.o 1
 have t2:=thaw HR.o 2
 have t3:=thaw HR.o 3
 have EB:Hid (b=zbN wd cs ls fs [(z,k,l2)]):=eb
 clear c0 c1 c2 c3 e0 e1 e2 hp eb
 rcases b with _|_
 ·obtain⟨rfl,hO⟩:=hq rfl
  have HO:Hid (zaL w4 w3.heap.size v []):=hO
  clear hq h6 hO
  go_wp2_with fail
  obtain⟨y,ey⟩:∃ y,y=((((w4.setCell (O rb 0) (J 0)).setCell (O rb 1) (.slice none 0 0)).setCell (O rb 2) (.slice none 0 0)).setCell (O rb 3) (.slice none 0 0)):=⟨_,rfl⟩
  have r4:=heap_setCell_same _ _ 3 _ _ (.slice none 0 0) (heap_setCell_same _ _ 2 _ _ (.slice none 0 0) (heap_setCell_same _ _ 1 _ _ (.slice none 0 0) (heap_setCell_same _ _ 0 _ _ (J 0) HR.o)))
  have h4:zaQ (fun e=>e=rb) w4 y:=by
   rw[ey]
   have h0:zaQ (fun e=>e=rb) w4 w4:=zaQ.refl _ _
   have h1:=zaX h0 (p:=(O rb 0)) (v:=(J 0)) rfl
   have h2:=zaX h1 (p:=(O rb 1)) (v:=(.slice none 0 0)) rfl
   have h3:=zaX h2 (p:=(O rb 2)) (v:=(.slice none 0 0)) rfl
   exact zaX h3 (p:=(O rb 3)) (v:=(.slice none 0 0)) rfl
  rw[<- ey] at r4 ⊢
  clear ey q0 q1 q2 q3 t0 t1 t2 t3
  replace r4:y.heap[rb]?=some (.cells xF 35):=by simpa using r4
  obtain⟨q0,q1,q2,q3⟩:=zav r4
  have hs:xE w y:=h4.below (zae HB3.o HB3.o.size HB4.o) (fun e q=>qg) (by have:=HB4.o.size;omega)
  have hu:zaL y w.heap.size v []:=zaw (zap HO.o (fun b q1 q2=>h4.block b q1 (by have:=(World.ownsRow.lt HO.o b q2).1;omega))) qg
  refine bodyPost_ret (v:=.tuple #[.agg xF,v,.bool false]) (by simp[results,results17,go_sem,q0,q1,q2,q3]) rfl ⟨_,_,false,rfl,EB.o,hs,(fun _=>⟨rfl,hu⟩),fun q=>by cases q⟩
 ·obtain⟨ga,ck,bl,lk,bf,fk,arrL,arrF,rfl,hw,hO,hz,hA⟩:=h6 rfl
  have hJ:=hw.lt
  have HS:Hid (ScE w3.heap.size w4 (zbQ cs [(z,k,l2)] 1) fs.length ga ck bl bf arrL arrF (doL wd (zbQ cs [(z,k,l2)] 1) (fun j=>ls.getD j 0) (sM fs [(z,k,l2)]) fs.length) (doF wd (zbQ cs [(z,k,l2)] 1) (fun j=>fs.getD j []) (sM fs [(z,k,l2)]) fs.length)):=hw
  have HO:Hid (zaL w4 w3.heap.size v (zba (sM fs [(z,k,l2)]) fs.length)):=hO
  have HN:Hid ((∀ b,v.ownBlock=some b->b≠ga/\b≠bl/\b≠bf)/\∀ j u b,j<fs.length->arrF[j]?=some u->u.ownBlock=some b->v.ownBlock≠some b):=⟨hz,hA⟩
  clear hq h6 hw hO hz hA
  go_wp2_with fail
  obtain⟨y,ey⟩:∃ y,y=((((w4.setCell (O rb 0) (J wd)).setCell (O rb 1) (.slice (xA ga) cs.length ck)).setCell (O rb 2) (.slice (xA bl) ls.length lk)).setCell (O rb 3) (.slice (xA bf) fs.length fk)):=⟨_,rfl⟩
  have r4:=heap_setCell_same _ _ 3 _ _ (.slice (xA bf) fs.length fk) (heap_setCell_same _ _ 2 _ _ (.slice (xA bl) ls.length lk) (heap_setCell_same _ _ 1 _ _ (.slice (xA ga) cs.length ck) (heap_setCell_same _ _ 0 _ _ (J wd) HR.o)))
  have h4:zaQ (fun e=>e=rb) w4 y:=by
   rw[ey]
   have h0:zaQ (fun e=>e=rb) w4 w4:=zaQ.refl _ _
   have h1:=zaX h0 (p:=(O rb 0)) (v:=(J wd)) rfl
   have h2:=zaX h1 (p:=(O rb 1)) (v:=(.slice (xA ga) cs.length ck)) rfl
   have h3:=zaX h2 (p:=(O rb 2)) (v:=(.slice (xA bl) ls.length lk)) rfl
   exact zaX h3 (p:=(O rb 3)) (v:=(.slice (xA bf) fs.length fk)) rfl
  rw[<- ey] at r4 ⊢
  clear ey q0 q1 q2 q3 t0 t1 t2 t3
  replace r4:y.heap[rb]?=some (.cells (xH wd (xA ga) cs.length ck (xA bl) ls.length lk (xA bf) fs.length fk) 35):=by simpa using r4
  obtain⟨q0,q1,q2,q3⟩:=zav r4
  have hs:xE w y:=h4.below (zae HB3.o HB3.o.size HB4.o) (fun e q=>qg) (by have:=HB4.o.size;omega)
  have hE:=(HS.o.off h4 qg qg qg (fun j u b hj e q=>by have:=(HS.o.rowlt hj e q).1;omega)).mono (lo':=w.heap.size) qg
  have hu:=zaw (B':=w.heap.size) (zap HO.o (fun b q1 q2=>h4.block b q1 (by have:=(World.ownsRow.lt HO.o b q2).1;omega))) qg
  refine bodyPost_ret (v:=.tuple #[.agg (xH wd (xA ga) cs.length ck (xA bl) ls.length lk (xA bf) fs.length fk),v,.bool true]) (by simp[results,results17,go_sem,q0,q1,q2,q3]) rfl ⟨_,_,true,rfl,EB.o,hs,(fun q=>by cases q),fun _=>⟨ga,ck,bl,lk,bf,fk,arrL,arrF,rfl,hE,hu,HN.o.1,HN.o.2⟩⟩
end Sp
namespace Sp
open Go.RowKit
attribute [local go_sem ↓] Go.wp_at_zero Go.wp_at_succ
theorem zic{c:Nat}(h:Own w B (.slice a N c) cs):zaf w a cs:=by
 obtain⟨a2,c2,e,hC⟩:=h.slice
 simp only[Value.slice.injEq] at e
 obtain⟨rfl,_,rfl⟩:=e
 exact hC
structure Sn(w:World)(B hi N:Nat)(cs:Lp)(M:Nat)(l:Nat->Int)(n:Nat->Nat)(f:Nat->Nat->Int)(ga la fa:Od)(gc:Nat)(ad:Nat->Od)(cp:Nat->Nat):Prop where
 own:Own w B (.slice ga N gc) cs
 li:RI w la (M * 1) l
 feet:zbk w B hi fa M ad n cp f
 ap:zfy hi ga la fa M ad
 lo:∀ e,zaC ga e\/zaC la e\/zaC fa e\/za1 M ad e->B<=e
 top:hi<=w.heap.size
theorem Sn.off{S:Np}(h:Sn w B hi N cs M l n f ga la fa gc ad cp)(ho:zaQ S w w')(hS:∀ e,B<=e->e<hi->¬ S e):Sn w' B hi N cs M l n f ga la fa gc ad cp :=
 ⟨zes h.own ho (fun b hb=>hS b (h.lo b (.inl (zci hb))) (h.ap.lt b (.inl (zci hb)))),h.li.offN ho (fun x e=>hS _ (h.lo _ (.inr (.inl ⟨x,e,rfl⟩))) (h.ap.lt _ (.inr (.inl ⟨x,e,rfl⟩)))),h.feet.off ho hS,h.ap,h.lo,Nat.le_trans h.top ho.size⟩
theorem Sn.below(h:Sn w B hi N cs M l n f ga la fa gc ad cp)(hb:xE w w'):Sn w' B hi N cs M l n f ga la fa gc ad cp :=
 h.off (S:=fun _=>False) (zaQ.of hb) (fun _ _ _=>id)
theorem zfy.mono{sz sz':Nat}(h:zfy sz ga la fa M ad)(hz:sz<=sz'):zfy sz' ga la fa M ad :=
 ⟨h.gl,h.gf,h.gr,h.lf,h.lr,fun e q=>nll (h.lt e q) hz⟩
theorem zuq{ga2 la2 fa2:Od}{lc fc gc2 lc2 fc2 B2 h0:Nat}{ad2:Nat->Od}{cp2:Nat->Nat}(h:Sn w B hi N cs M l n f ga la fa gc ad cp)(h2:Sn w B2 h0 N cs M l n f ga2 la2 fa2 gc2 ad2 cp2)(hN:cs.length=N)(hm:N<=25)(hM:M<=20)(hn:∀ k,k<M->n k<=1000) :
  Calls SqP.prog 11 #[.agg (xH wd ga N gc la M lc fa M fc),.agg (xH wd ga2 N gc2 la2 M lc2 fa2 M fc2)] w (xB w (.bool true)):=by
 subst hN
 exact zok wd cs M ga ga2 la la2 fa fa2 gc gc2 lc lc2 fc fc2 B hi B2 h0 ad ad2 n cp cp2 l f w (zic h.own) (zic h2.own) h.li h2.li h.feet h2.feet qg hM hn
theorem zsb{lc fc:Nat}{k1 k2 k3:Int}(h:Sn w B hi N (marks 1 N) M (fun j=>k1+(j:Int)) n (fun k j=>k2+(zca n k:Int)+(j:Int)) ga la fa gc ad cp)(hm:N<=25)(hM:M<=20)(hn:∀ k,k<M->n k<=1000)(e1:k1=1+2 * (N:Int))(e2:k2=k1+1 * (M:Int))(e3:k3=k2+(zca n M:Int)) :
  Calls SqP.prog 18 #[.agg (xH wd ga N gc la M lc fa M fc),J 1] w (xB w (J k3)) :=
 zkm wd 1 k1 k2 k3 N M ga la fa gc lc fc B hi ad n cp w e1 e2 e3 qg (zic h.own) h.li h.feet qg hM hn
end Sp
namespace Sp
open Go.RowKit
theorem zpA{lo:Nat}{ga ck bl bf:Nat}{arrL arrF:Array Value}(h:ScE lo w cs M ga ck bl bf arrL arrF L F)(hN:cs.length=N) :
  ∃ ad cp,Sn w lo w.heap.size N cs M L (fun j=>(F j).length) (fun j i=>(F j).getD i 0) (xA ga) (xA bl) (xA bf) ck ad cp/\∀ e,za1 M ad e->∃ j u,j<M/\arrF[j]?=some u/\u.ownBlock=some e:=by
 subst hN
 obtain⟨xs,exs⟩:∃ xs:Nat->Value,xs=fun j=>(arrF[j]?).getD undef:=⟨_,rfl⟩
 have h0:∀ j,j<M->arrF[j]?=some (xs j)/\zaL w lo (xs j) (F j):=fun j hj=>by
  obtain⟨v,e,q⟩:=h.row j hj
  have e2:xs j=v:=by
   rw[exs]
   show (arrF[j]?).getD undef=v
   rw[e]
   rfl
  rw[e2]
  exact⟨e,q⟩
 have hx:∀ j,j<M->xs j=.slice (znJ (xs j)) (F j).length (zbF (xs j))/\RI w (znJ (xs j)) ((F j).length * 1) (fun i=>(F j).getD i 0)/\∀ x,znJ (xs j)=some x->(xs j).ownBlock=some x.block:=fun j hj=>by
  obtain⟨a,c,h1,h2,h3⟩:=zcH (h0 j hj).2
  rw[h1] at h3 ⊢
  exact⟨rfl,h2,h3⟩
 have h5:∀ j x,j<M->znJ (xs j)=some x->(lo<=x.block/\x.block<w.heap.size)/\(x.block≠ga/\x.block≠bl/\x.block≠bf):=fun j x hj q=>⟨World.ownsRow.lt (h0 j hj).2 x.block ((hx j hj).2.2 x q),h.apart j _ hj (h0 j hj).1 x.block ((hx j hj).2.2 x q)⟩
 have h4:∀ e,za1 M (fun j=>znJ (xs j)) e->(lo<=e/\e<w.heap.size)/\(e≠ga/\e≠bl/\e≠bf):=fun e ⟨k,x,q1,q2,q3⟩=>by rw[q3];exact h5 k x q1 q2
 have h7:=h.lt
 have h6:=h.lts
 refine⟨fun j=>znJ (xs j),fun j=>zbF (xs j),⟨h.grid,.inr ⟨bl,rfl,h6.2.1,fun j hj=>⟨?_,frozen_of_row _ _ j _ _ h.lights⟩⟩,.inr ⟨bf,rfl,⟨h7.1.2.2,h6.2.2⟩,fun k hk=>?_,fun k hk=>(hx k hk).2.1,fun k x hk q=>⟨(h5 k x hk q).1,(h5 k x hk q).2.2.2⟩,fun k k' x x' hk hk' q q' e=>?_,Nat.le_refl _⟩,⟨?_,?_,?_,?_,?_,?_⟩,?_,Nat.le_refl _⟩,?_⟩
 ·rw[cell_of_row _ _ j _ _ _ h.lights,h.atL j qg]
 ·rw[cell_of_row _ _ k _ _ _ h.feet,(h0 k hk).1]
  exact congrArg some (hx k hk).1
 ·have q1:=(hx k hk).2.2 x q
  have q2:=(hx k' hk').2.2 x' q'
  rw[<- e] at q2
  exact h.inj k k' _ _ x.block hk hk' (h0 k hk).1 (h0 k' hk').1 q1 q2
 ·intro e q q'
  have:=zam q;have:=zam q';omega
 ·intro e q q'
  have:=zam q;have:=zam q';omega
 ·intro e q q'
  have:=zam q;have:=(h4 e q').2.1;omega
 ·intro e q q'
  have:=zam q;have:=zam q';omega
 ·intro e q q'
  have:=zam q;have:=(h4 e q').2.2.1;omega
 ·rintro e (q|q|q)
  ·have:=zam q;omega
  ·have:=zam q;omega
  ·exact(h4 e q).1.2
 ·rintro e (q|q|q|q)
  ·have:=zam q;omega
  ·have:=zam q;omega
  ·have:=zam q;omega
  ·exact(h4 e q).1.1
 ·rintro e ⟨k,x,q1,q2,q3⟩
  exact⟨k,xs k,q1,(h0 k q1).1,by rw[q3];exact(hx k q1).2.2 x q2⟩
theorem ztV(h:hi<=w.heap.size):Sn w B hi 0 [] 0 l n f none none none 0 (fun _=>none) (fun _=>0):=by
 have h0:∀ e,¬ zaC none e:=fun e ⟨x,h,_⟩=>by cases h
 have h1:∀ e,¬ za1 0 (fun _=>none) e:=fun e ⟨k,x,h,_⟩=>by omega
 exact⟨⟨rfl,.inl ⟨rfl,rfl⟩⟩,.inl rfl,.inl rfl,⟨fun e h=>absurd h (h0 e),fun e h=>absurd h (h0 e),fun e h=>absurd h (h0 e),fun e h=>absurd h (h0 e),fun e h=>absurd h (h0 e),fun e h=>by rcases h with h|h|h;exact absurd h (h0 e);exact absurd h (h0 e);exact absurd h (h1 e)⟩,fun e h=>by rcases h with h|h|h|h;exact absurd h (h0 e);exact absurd h (h0 e);exact absurd h (h0 e);exact absurd h (h1 e),h⟩
def ztp(w:World)(wd:Int)(N:Nat)(cs:Lp)(M:Nat)(l:Nat->Int)(n:Nat->Nat)(f:Nat->Nat->Int)(m:Nat)(A:Nat->Int)(ok:Bool)(r:Ending)(w':World):Prop :=
 ∃ ga la fa gc lc fc ad cp a c,r=.returned (.tuple #[.agg (xH wd ga N gc la M lc fa M fc),.slice a m c,.bool ok])/\Sn w' w.heap.size w'.heap.size N cs M l n f ga la fa gc ad cp/\Row1 w' w.heap.size w'.heap.size a m A/\(∀ x,a=some x->¬ (zaC ga x.block\/zaC la x.block\/zaC fa x.block\/za1 M ad x.block))/\xE w w'
theorem zsx(h:zqc w wd cs ls fs es r w')(ho:zbN wd cs ls fs es=false):ztp w 0 0 [] 0 (fun _=>0) (fun _=>0) (fun _ _=>0) 0 (fun _=>0) false r w':=by
 obtain⟨x,v,b,rfl,eb,hb,h0,_⟩:=h
 rw[ho] at eb
 subst eb
 obtain⟨rfl,hO⟩:=h0 rfl
 obtain⟨a,c,rfl,h4⟩:=zrk hO
 refine⟨none,none,none,0,0,0,fun _=>none,fun _=>0,a,c,rfl,ztV (Nat.le_refl _),⟨.inl rfl,h4.2⟩,?_,hb⟩
 rintro x rfl (q|q|q|q)
 ·obtain⟨y,q1,_⟩:=q;cases q1
 ·obtain⟨y,q1,_⟩:=q;cases q1
 ·obtain⟨y,q1,_⟩:=q;cases q1
 ·obtain⟨k,y,q1,_⟩:=q;omega
theorem zqj(h:zqc w wd cs ls fs es r w')(ho:zbN wd cs ls fs es=true)(hl:ls.length=fs.length)(es':sM fs es=s)(eL:doL wd (zbQ cs es es.length) (fun j=>ls.getD j 0) (sM fs es) fs.length=L)(eF:doF wd (zbQ cs es es.length) (fun j=>fs.getD j []) (sM fs es) fs.length=F) :
  ztp w wd cs.length (zbQ cs es es.length) fs.length L (fun j=>(F j).length) (fun j i=>(F j).getD i 0) (zba s fs.length).length (fun i=>(zba s fs.length).getD i 0) true r w':=by
 obtain⟨x,v,b,rfl,eb,hb,_,h1⟩:=h
 rw[ho] at eb
 subst eb
 obtain⟨ga,ck,bl,lk,bf,fk,arrL,arrF,rfl,hS,hO,h0,h4⟩:=h1 rfl
 rw[eL,eF] at hS
 rw[es'] at hO
 obtain⟨ad,cp,h5,h6⟩:=zpA hS (zby cs es es.length)
 obtain⟨a,c,rfl,h2,h3⟩:=zcH hO
 rw[hl]
 refine⟨_,_,_,_,_,_,ad,cp,a,c,rfl,h5,⟨h2,fun x q=>World.ownsRow.lt hO _ (h3 x q)⟩,?_,hb⟩
 rintro x rfl (q|q|q|q)
 ·have:=h0 _ (h3 x rfl);have:=zam q;omega
 ·have:=h0 _ (h3 x rfl);have:=zam q;omega
 ·have:=h0 _ (h3 x rfl);have:=zam q;omega
 ·obtain⟨j,u,q1,q2,q3⟩:=h6 _ q
  exact h4 j u _ q1 q2 q3 (h3 x rfl)
theorem zmK(ho:zbN wd cs ls fs es=true):cs.length<=25/\fs.length<=20/\ls.length=fs.length/\(∀ k,k<fs.length->(doF wd (zbQ cs es es.length) (fun j=>fs.getD j []) (sM fs es) fs.length k).length<=1000)/\(zba (sM fs es) fs.length).length<=20:=by
 unfold zbN at ho
 simp only[Bool.and_eq_true,decide_eq_true_eq] at ho
 obtain⟨k1,k2,k3,k4,_⟩:=zb1 ho.1 ho.2.1 ho.2.2
 refine⟨k1.2,k2.2,k3,fun k hk=>?_,Nat.le_trans (zd9 _ _) k2.2⟩
 unfold doF
 split
 ·exact Nat.le_trans (zeO _ _) (by rw[zby];omega)
 ·exact(k4 k hk).2
end Sp
namespace Sp
open Go.RowKit
attribute [local go_sem ↓] Go.wp_at_zero Go.wp_at_succ
theorem zjl{lo g1 g2 g3 lc fc:Nat}(h:Mk w lo hi g1 g2 g3 cs ls fs)(hS:zc8 cs ls fs)(hc:gc=cs.length/\lc=ls.length) :
  Calls SqP.prog 12 #[.agg (xH wd (xA g1) cs.length gc (xA g2) ls.length lc (xA g3) fs.length fc),J 1] w fun e w'=>∃ r:Int,e=.returned (J r)/\(0<=r/\r<=4398046511104)/\zaQ (fun e=>lo<=e/\e<hi) w w':=by
 obtain⟨rfl,rfl⟩:=hc
 obtain⟨h1,h2,h3,ad,h4,h5⟩:=h
 obtain⟨a,c,q1,q2,q3⟩:=zcH h2
 cases q1
 have one:∀ {b e:Nat},zaC (xA b) e->e=b:=fun ⟨x,p1,p2⟩=>by cases p1;exact p2
 have row:∀ {e:Nat},za1 fs.length ad e->g3<e/\e<hi:=fun ⟨k,x,p1,p2,p3⟩=>by rw[p3];exact h5 k x p1 p2
 have hA:zfy w.heap.size (xA g1) (xA g2) (xA g3) fs.length ad:=by
  refine⟨fun e p p'=>?_,fun e p p'=>?_,fun e p p'=>?_,fun e p p'=>?_,fun e p p'=>?_,fun e p=>?_⟩
  ·have:=one p;have:=one p';omega
  ·have:=one p;have:=one p';omega
  ·have:=one p;have:=row p';omega
  ·have:=one p;have:=one p';omega
  ·have:=one p;have:=row p';omega
  ·rcases p with p|p|p
   ·have:=one p;omega
   ·have:=one p;omega
   ·have:=row p;omega
 have hs:=zfu (n:=fun k=>(fs.getD k []).length) hS.2.2.2 fs.length (Nat.le_refl _)
 refine(zf5 wd 1 _ _ _ cs ls.length fs.length lo _ _ _ _ _ fc _ _ ad _ _ _ _ w rfl rfl rfl qg h1 q2 h4 hS.1 hS.2.1 hS.2.2.1 hS.2.2.2 hA).mono ?_
 rintro e w' ⟨rfl,_,_,_,ho⟩
 refine⟨_,rfl,⟨qg,by have:=hS.1;have:=hS.2.1;have:=hS.2.2.1;omega⟩,ho.imp fun e p=>?_⟩
 rcases p with p|p|p
 ·have:=one p;omega
 ·have:=one p;omega
 ·have:=row p;omega
theorem ztC(wd:Int)(cs:Lp)(ls:List Int)(fs:List (List Int))(es:Le):∃ (wd':Int) (N':Nat) (cs':Lp) (M':Nat) (l:Nat->Int) (n:Nat->Nat) (f:Nat->Nat->Int) (m:Nat) (A:Nat->Int) (ok:Bool),cs'.length=N'/\N'<=25/\M'<=20/\(∀ k,k<M'->n k<=1000)/\m<=20 /\
  ∀(w w':World) (r:Ending),zqc w wd cs ls fs es r w'->ztp w wd' N' cs' M' l n f m A ok r w':=by
 rcases ho:zbN wd cs ls fs es with _|_
 ·exact⟨0,0,[],0,_,_,_,0,_,false,rfl,qg,qg,fun k hk=>qg,qg,fun w w' r h=>zsx h ho⟩
 ·obtain⟨k1,k2,k3,k4,k5⟩:=zmK ho
  exact⟨wd,cs.length,zbQ cs es es.length,fs.length,_,_,_,_,_,true,zby _ _ _,k1,k2,k4,k5,fun w w' r h=>zqj h ho k3 rfl rfl rfl⟩
