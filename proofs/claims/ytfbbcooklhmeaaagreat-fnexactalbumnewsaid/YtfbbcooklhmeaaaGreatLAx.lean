/- Of the proof: PFp -/
import Derived.Test.YtfbbcooklhmeaaaGreatLAv
import Derived.Test.YtfbbcooklhmeaaaGreatLAw
set_option maxHeartbeats 4000000
set_option linter.unusedVariables false
namespace Go.Proofs.YtfbbcooklhmeaaaGreat
namespace Sp
variable {aLt:Nat->Func->Func}
open Go.RowKit
attribute [local go_sem ↓] Go.wp_at_zero Go.wp_at_succ
def ziK (w:World) (C:Nat):Prop:=(∀ i q,w.tape i q=C - 1)/\1<=C/\C<=maxLen
theorem zmd (vs:List (Int × Int × Int)) (i j:Nat) (h:i<=j):(zaK i vs).length<=(zaK j vs).length:=by
 obtain ⟨m,rfl⟩:∃ m,j=i + m:=⟨j - i,by omega⟩
 induction m with
 | zero=>exact Nat.le_refl _
 | succ m ih =>
  have hs:=zdI vs (i + m)
  have h1:=ih (by omega)
  rw [<- Nat.add_assoc,hs]
  by_cases q:seenAt vs (i + m)=true
  ·rw [if_pos q]; simp; omega
  ·rw [if_neg q]; exact h1
set_option maxRecDepth 20000 in
theorem zed (wd:Int) (a:Option Addr) (cap:Nat) (cs:List (Int × Int)) (w:World) (h:zai w a cs) (hm:cs.length<=1048576) (k:Int) :
  Calls (SqG.prog aLt) 34 #[.agg #[.int .i64 wd,.slice a cs.length cap],.int .i64 k] w fun e w'=>∃ v,e=.returned v/\zdu w' w.heap.size 3 v (za0 wd cs k)/\(∀ C,ziK w C->(za0 wd cs k).length<=C->v=.slice none 0 0\/zbI v=C)/\Below w.heap.size w w':=by
 obtain ⟨i0,hi,iz0,iz1,iz2⟩:=info_parts (zj0 (aLt:=aLt))
 obtain ⟨L,hL⟩:∃ L,zaR wd cs k=L:=⟨_,rfl⟩
 obtain ⟨hP,hln,h25,_⟩:=zeA hL
 obtain ⟨vs,hes⟩:∃ vs,L.1=vs:=⟨_,rfl⟩
 rw [hes] at hP hln h25
 have HF:Hid (za0 wd cs k=zaK 25 vs):=by
  show _=_
  unfold za0
  rw [hL,hes]
  by_cases e:vs=[]
  ·subst e
   rw [zhM,zhM]
  ·exact (zpX cs.length vs (h25 e) hP).symm
 rw [HF.out]
 have HP:Hid (∀ u ∈ vs,0<=u.1/\u.1 < 25):=fun u hu=>by
  have q1:=hP u hu
  have q2:=h25 (fun z=>by rw [z] at hu; simp at hu)
  omega
 have HL:Hid (zaR wd cs k=L):=hL
 have HES:Hid (L.1=vs):=hes
 obtain ⟨u,hu⟩:∃ u,u=(w.alloc (.cells #[.int .i64 wd,.slice a cs.length cap] 28)).alloc (.cells #[.bool false,.bool false,.bool false,.bool false,.bool false,.bool false,.bool false,.bool false,.bool false,.bool false,.bool false,.bool false,.bool false,.bool false,.bool false,.bool false,.bool false,.bool false,.bool false,.bool false,.bool false,.bool false,.bool false,.bool false,.bool false] 103):=⟨_,rfl⟩
 have hbU:Below w.heap.size w u:=by rw [hu]; exact bel
 have hV0:BkB u (w.heap.size + 1) (fun _=>false):=by rw [hu]; exact zcL _ _ _ (by simp)
 have hC:=h.below hbU
 have zu:w.heap.size + 2<=u.heap.size:=by rw [hu]; simp
 clear hL hes hP h25
 go_enter SqG.func34,Tryz.ntmps34
 go_wp2_with fail
 rw [<- hu]
 clear hu
 refine (zfR wd a cap cs _ hC hm k).mono ?_
 rw [HL.out,HES.out]
 rintro r x1 ⟨a0,c0,a1,c1,a2,n2,c2,rfl,o0,o1,hb1⟩
 have hfld:=zoc (aLt:=aLt) a0 a1 a2 vs.length c0 L.2.length c1 n2 c2
 have hB1:=zak hbU (by omega) hb1
 have hV1:BkB x1 (w.heap.size + 1) (fun j=>seenAt (vs.take 0) j):=by
  have q:=hV0.below hb1
  unfold BkB at q ⊢
  rw [q,zlP _ (fun j=>seenAt (vs.take 0) j) (fun j _=>by simp [seenAt])]
 have hb2:=hb1.mono zu
 obtain ⟨aX,cX,eX,hR3⟩:=zcR o0
 simp only [Value.slice.injEq,true_and] at eX
 obtain ⟨rfl,rfl⟩:=eX
 have hrn:∀ b off,a0=some ⟨b,off,none⟩->u.heap.size<=b:=by
  intro b off e
  subst e
  rcases o0.2 with ⟨q,_⟩ | ⟨g,cp,cur,q,hg,_⟩
  ·simp at q
  ·simp only [Value.slice.injEq,Option.some.injEq,Addr.mk.injEq] at q
   omega
 have HR:Hid (∀ w',(∀ b,b < x1.heap.size->b ≠ w.heap.size + 1->w'.heap[b]?=x1.heap[b]?)->x1.heap.size<=w'.heap.size->znN w' a0 vs):=by
  intro w' hq hz
  rcases hR3 with q | ⟨b,off,e,hbl,hc⟩
  ·exact Or.inl q
  ·have hne:=hrn b off e
   refine Or.inr ⟨b,off,e,by omega,fun i hi=>?_⟩
   have hk:=hq b hbl (by omega)
   exact ⟨by rw [World.cell?_of_block (w:=x1) hk]; exact (hc i hi).1,by rw [World.cell?_of_block (w:=x1) hk]; exact (hc i hi).2.1,by rw [World.cell?_of_block (w:=x1) hk]; exact (hc i hi).2.2⟩
 clear hb1 o0 o1 hC hbU hV0 hR3 hrn
 go_wp2_with fail
 go_loopw [16] (fun ii wr=>∃ i:Nat,i<=vs.length/\ii=.int .i64 i/\Below w.heap.size w wr/\(∀ b,b < x1.heap.size->b ≠ w.heap.size + 1->wr.heap[b]?=x1.heap[b]?)/\x1.heap.size<=wr.heap.size/\BkB wr (w.heap.size + 1) (fun j=>seenAt (vs.take i) j)) (fun ii _=>vs.length - (intOf ii).toNat)
 case atStart=>exact ⟨0,Nat.zero_le _,rfl,hB1,fun _ _ _=>rfl,Nat.le_refl _,hV1⟩
 case round =>
  rename World=>wo
  obtain ⟨i,hi1,rfl,hb,hfr,hsz,hV⟩:=hrel
  have hgl:=hV.lt
  by_cases hlt:i < vs.length
  ·have hR3:=HR.out wo hfr hsz
   rcases hR3 with q | ⟨b,off,rfl,hbl,hc⟩
   ·rw [q] at hlt; simp at hlt
   obtain ⟨t,et⟩:∃ t,vs.getD i (0,0,0)=t:=⟨_,rfl⟩
   have hmem:t ∈ vs:=by rw [<- et]; simp [List.getElem?_eq_getElem hlt]
   obtain ⟨z0,z1,z2⟩:=hc i hlt
   rw [et] at z0 z1 z2
   obtain ⟨hx0,hx1⟩:=HP.out t hmem
   obtain ⟨t0,t1,t2⟩:=t
   simp only at z0 z1 z2 hx0 hx1
   obtain ⟨X,rfl⟩:=Int.eq_ofNat_of_zero_le hx0
   have hXn:X < 25:=by omega
   have hst:∀ j,seenAt (vs.take (i + 1)) j=(seenAt (vs.take i) j || ((X:Int) == (j:Int))):=by
    intro j
    rw [ze3 vs i (0,0,0) hlt,et]
    unfold seenAt
    rw [List.any_append]
    simp
   have hbA:Below wo.heap.size wo (wo.alloc (.cells #[.int .i64 (X:Int),.int .i64 t1,.int .i64 t2] 109)):=bel
   have hVA:=hV.below hbA
   have y0:=hVA.cell X hXn
   have yf:=hVA.fz X
   have hVS:BkB (wo.setCell ⟨w.heap.size + 1,X,none⟩ (.bool true)) (w.heap.size + 1) (fun j=>seenAt (vs.take (i + 1)) j):=by
    refine hV.put X hXn (show seenAt (vs.take (i + 1)) X=true by rw [hst]; simp) (fun j _ hne=>?_)
    show seenAt (vs.take (i + 1)) j=seenAt (vs.take i) j
    rw [hst]
    have:((X:Int) == (j:Int))=false:=by simp; omega
    rw [this]; simp
   obtain ⟨wS,hwS⟩:∃ wS,wS=wo.setCell ⟨w.heap.size + 1,X,none⟩ (.bool true):=⟨_,rfl⟩
   have hbS:Below w.heap.size w wS:=by rw [hwS]; exact hb.setCell (p:=⟨w.heap.size + 1,X,none⟩) (by show w.heap.size<=w.heap.size + 1; omega) _
   have hfS:∀ b,b < x1.heap.size->b ≠ w.heap.size + 1->wS.heap[b]?=x1.heap[b]?:=by
    intro b hb' hne
    rw [hwS,Below.heap_setCell _ ⟨w.heap.size + 1,X,none⟩ _ b hne]
    exact hfr b hb' hne
   have hzS:x1.heap.size<=wS.heap.size:=by rw [hwS]; simpa using hsz
   have hbB:Below wS.heap.size wS (wS.alloc (.cells #[.int .i64 (X:Int),.int .i64 t1,.int .i64 t2] 109)):=bel
   rw [<- hwS] at hVS
   have hV2:=hVS.below hbB
   have hb3:=zak hbS hbS.size hbB
   have hfr2:∀ b,b < x1.heap.size->b ≠ w.heap.size + 1->(wS.alloc (.cells #[.int .i64 (X:Int),.int .i64 t1,.int .i64 t2] 109)).heap[b]?=x1.heap[b]?:=by
    intro b hb' hne
    rw [hbB.block b (by omega)]
    exact hfS b hb' hne
   have hsz2:x1.heap.size<=(wS.alloc (.cells #[.int .i64 (X:Int),.int .i64 t1,.int .i64 t2] 109)).heap.size:=by have:=hbB.size; omega
   obtain ⟨bv,ebv⟩:∃ bv,seenAt (vs.take i) X=bv:=⟨_,rfl⟩
   have y0':=hV.cell X hXn
   have yf':=hV.fz X
   rw [ebv] at y0 y0'
   rw [hwS] at hV2 hb3 hfr2 hsz2
   clear hst hc hmem et ebv hV hVA hfr hb hVS hbS hfS hzS hbB
   clear hwS
   go_wp2_with fail
   go_roundw
   case rel=>exact ⟨i + 1,by omega,by go_num,hb3,hfr2,hsz2,hV2⟩
   case measure=>simp [intOf]; omega
  ·have hV2:BkB wo (w.heap.size + 1) (fun j=>seenAt vs j):=by
    unfold BkB at hV ⊢
    rw [hV,List.take_of_length_le (by omega)]
   have hO:zdu wo (w.heap.size + 2) 3 (.slice none 0 0) (zaK 0 vs):=Or.inl ⟨rfl,rfl⟩
   clear hV hfr HR
   go_wp2_with (refine wpList_load_row rfl 103 (.tmp 5) rfl (w.heap.size + 1) rfl 103 (znS fun j=>seenAt vs j) (0,0) _ hV2 zpg rfl (by rw [zp1,zcl]) ?_)
   go_wp2_with fail
   go_loopw [8,25] (fun oo ii wr=>∃ i:Nat,i<=25/\ii=.int .i64 i/\Below w.heap.size w wr/\w.heap.size + 2<=wr.heap.size/\zdu wr (w.heap.size + 2) 3 oo (zaK i vs)/\(∀ C,ziK w C->(zaK 25 vs).length<=C->oo=.slice none 0 0\/zbI oo=C)) (fun _ ii _=>25 - (intOf ii).toNat)
   case atStart=>exact ⟨0,by omega,rfl,hb,by omega,hO,fun _ _ _=>.inl rfl⟩
   case round =>
    rename World=>wp
    obtain ⟨i2,hi2,rfl,hb',hz',hO2,hT2⟩:=hrel
    have HT2:Hid (∀ C,ziK w C->(zaK 25 vs).length<=C->u8=.slice none 0 0\/zbI u8=C):=hT2
    clear hT2
    by_cases hl2:i2 < 25
    ·have hix:=zrE (aLt:=aLt) (fun j=>seenAt vs j) i2 hl2
     have hfl:=zi1 i2 vs
     have hfs:=zdI vs i2
     rcases hsn:seenAt vs i2 with _ | _
     ·rw [hsn] at hix
      rw [if_neg (by simp [hsn])] at hfs
      have HFS:Hid (zaK (i2 + 1) vs=zaK i2 vs):=hfs
      clear hfs hsn
      go_wp2_with fail
      go_roundw
      case rel=>exact ⟨i2 + 1,by omega,by go_num,hb',hz',by rw [HFS.out]; exact hO2,HT2.out⟩
      case measure=>simp [intOf]; omega
     ·rw [hsn] at hix
      rw [if_pos hsn] at hfs
      have HFS:Hid (zaK (i2 + 1) vs=zaK i2 vs ++ [(i2:Int)]):=hfs
      clear hfs hsn
      have hlm:=zmd vs (i2 + 1) 25 (by omega)
      have hbA:Below wp.heap.size wp (wp.alloc (.cells #[.int .i64 (i2:Int)] 3)):=(Below.refl _ _).alloc (Nat.le_refl _) _
      have hOA:=hO2.below hbA
      go_wp2_with (at_builtin; refine zfV _ rfl _ _ _ rfl (w.heap.size + 2) 3 i0 SqG.underlying29 hi iz0 iz1 iz2 _ (zaK i2 vs) rfl hOA ⟨wp.heap.size,0,none⟩ 1 (i2:Int) rfl (by simp [go_sem]) (by omega) (by simp; omega) (wp.heap.size + 1) (by simp) ?_)
      intro g6 k6 w6 hO6 hg6 hat6 hlt6 hrm6
      have hown:=fun k q=>(hO2.ownBlock k q).1
      have hz6:=hg6.size
      simp at hz6
      have hb6:Below w.heap.size w w6:=by
       have hzb:=hb'.size
       refine ⟨(hg6.os.trans hbA.os).trans hb'.os,(hg6.tape.trans hbA.tape).trans hb'.tape,(hg6.output.trans hbA.output).trans hb'.output,by omega,fun k hk=>?_⟩
       rw [hg6.block k (by simp; omega) (fun q=>by have:=hown k q.symm; omega),hbA.block k (by omega)]
       exact hb'.block k hk
      have hT7:Hid (∀ C,ziK w C->(zaK 25 vs).length<=C->(Value.slice (some ⟨g6,0,none⟩) ((zaK i2 vs).length + 1) k6)=.slice none 0 0\/zbI (Value.slice (some ⟨g6,0,none⟩) ((zaK i2 vs).length + 1) k6)=C):=by
       intro C hC hl
       refine .inr (hrm6 C (fun i q=>?_) hC.2.1 hC.2.2 ?_ (HT2.out C hC hl))
       ·first
         | (rw [hb'.tape]; exact hC.1 i q)
         | (rw [show (wp.alloc (.cells #[.int .i64 (i2:Int)] 3)).tape=wp.tape from rfl,hb'.tape]; exact hC.1 i q)
       ·rw [HFS.out] at hlm
        simp at hlm
        omega
      have hz7:w.heap.size + 2<=w6.heap.size:=by omega
      clear hg6 hat6 hb' hO2 hbA hown hOA hrm6 HT2 hlm
      go_wp2_with fail
      go_roundw
      case rel=>exact ⟨i2 + 1,by omega,by go_num,hb6,hz7,by rw [HFS.out]; exact hO6,hT7.out⟩
      case measure=>simp [intOf]; omega
    ·have hfin:i2=25:=by omega
     subst hfin
     have hO3:zdu wp w.heap.size 3 u8 (zaK 25 vs):=hO2.mono (by omega)
     go_wp2_with fail
     go_ret
     exact ⟨_,rfl,hO3,HT2.out,hb'⟩
end Sp
end Go.Proofs.YtfbbcooklhmeaaaGreat
