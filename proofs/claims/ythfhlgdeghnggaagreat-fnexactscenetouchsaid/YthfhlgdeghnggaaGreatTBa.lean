/- Part. -/
import Derived.Deep.RegionWith
import Derived.Test.YthfhlgdeghnggaaGreatTAy
set_option maxHeartbeats 1000000
set_option linter.unusedVariables false
namespace Go.Proofs.YthfhlgdeghnggaaGreat
variable{cs:List (Int × Int)}{m:Nat}{f f':Nat->Int}{a:Option Addr}{w:World}
namespace Sp
variable{aLt:Nat->Func->Func}
open Go.RowKit
attribute [local go_sem ↓] Go.wp_at_zero Go.wp_at_succ
def RI(w:World)(a:Option Addr)(m:Nat)(f:Nat->Int):Prop:=m=0\/∃ g,a=some ⟨g,0,none⟩/\g<w.heap.size/\∀ j,j<m->w.cell? ⟨g,j,none⟩=some (.int .i64 (f j))/\w.frozen? ⟨g,j,none⟩=false
theorem RI.below{w':World}(h:RI w a m f)(hb:Below w.heap.size w w'):RI w' a m f:=by
 rcases h with h|⟨g,e,hg,hc⟩
 ·exact Or.inl h
 ·exact Or.inr ⟨g,e,nll hg hb.size,fun j hj=>⟨zab hb (hc j hj).1,zam hb (hc j hj).1 (hc j hj).2⟩⟩
theorem RI.like(h:RI w a m f)(e:∀ j,j<m->f' j=f j):RI w a m f':=by
 rcases h with h|⟨g,e1,hl,hc⟩
 ·exact Or.inl h
 ·exact Or.inr ⟨g,e1,hl,fun j hj=>by rw[e j hj];exact hc j hj⟩
theorem RI.put{g:Nat}(h:RI w (some ⟨g,0,none⟩) m f)(i:Nat)(v:Int)(hi:i<m)(h1:f' i=v)(h2:∀ j,j<m->j≠i->f' j=f j):RI (w.setCell ⟨g,i,none⟩ (.int .i64 v)) (some ⟨g,0,none⟩) m f':=by
 rcases h with h|⟨g',e1,hl,hc⟩
 ·omega
 ·simp only[Option.some.injEq,Addr.mk.injEq,and_true] at e1
  subst e1
  refine Or.inr ⟨g,rfl,by simpa using hl,fun j hj=>⟨?_,by simpa using (hc j hj).2⟩⟩
  by_cases e:j=i
  ·subst e
   rw[World.cell?_setCell_same _ _ _ (by rw[(hc j hj).1]),h1]
  ·have q:(⟨g,i,none⟩:Addr)≠⟨g,j,none⟩:=fun z=>e (Addr.mk.inj z).2.1.symm
   rw[World.cell?_setCell_other _ _ _ _ q,h2 j hj e]
   exact(hc j hj).1
theorem RI.at(h:RI w a m f)(hm:0<m):∃ g,a=some ⟨g,0,none⟩/\g<w.heap.size/\∀ j,j<m->w.cell? ⟨g,j,none⟩=some (.int .i64 (f j))/\w.frozen? ⟨g,j,none⟩=false:=by
 rcases h with h|h
 ·omega
 ·exact h
theorem zdE(a a2:Option Addr)(c c2 n:Nat)(f:Nat->Int)(w:World)(h:RI w a (n * 1) f)(h2:RI w a2 (n * 1) f)(hm:n<=1048576) :
  Calls (SqG.prog aLt) 10 #[.slice a n c,.slice a2 n c2] w fun e w'=>e=.returned (.bool true)/\Below w.heap.size w w':=by
 have bl:((n:Int) != (n:Int))=false:=by simp
 go_enter SqG.func10,Tryz.ntmps10
 go_wp2_with fail
 go_loopw [5] (fun ii wr=>∃ i:Nat,i<=n/\ii=.int .i64 i/\Below w.heap.size w wr) (fun ii _=>n - (intOf ii).toNat)
 case atStart=>exact⟨0,Nat.zero_le _,rfl,Below.refl _ _⟩
 case round =>
  rename World=>wo
  obtain⟨i,hi,rfl,hb⟩:=hrel
  by_cases hlt:i<n
  ·obtain⟨g,ea,_,hc⟩:=(h.below hb).at (by omega)
   obtain⟨g2,ea2,_,hc2⟩:=(h2.below hb).at (by omega)
   subst ea
   subst ea2
   have x0:=(hc i (by omega)).1
   have y0:=(hc2 i (by omega)).1
   have hil:(i:Int)<(n:Int):=by omega
   have hne:(f i != f i)=false:=by simp
   clear h h2 hc hc2
   go_wp2_with fail
   go_quiet (fail)
   have hbq:Below w.heap.size w (wo.drewN nq):=⟨hb.os,hb.tape,hb.output,hb.size,hb.block⟩
   go_wp2_with fail
   go_roundw
   case rel=>exact⟨i+1,by omega,by go_num,hbq⟩
   case measure=>simp[intOf];omega
  ·go_wp2_with fail
   go_ret
   exact⟨rfl,hb⟩
theorem ziG(k0:Int)(a:Option Addr)(n cap:Nat)(f:Nat->Int)(w:World)(h:RI w a (n * 1) f)(hm:n<=1048576)(hk0:0<=k0/\k0<=1099511627776) :
  Calls (SqG.prog aLt) 13 #[.slice a n cap,.int .i64 k0] w fun e w'=>e=.returned (.int .i64 (k0+1 * (n:Int)))/\RI w' a (n * 1) (fun j=>k0+(j:Int))/\w.grownBy w' (Value.slice a n cap).ownBlock:=by
 go_enter SqG.func13,Tryz.ntmps13
 go_wp2_with fail
 go_loopw [1,5] (fun v ii wr=>∃ i:Nat,i<=n/\ii=.int .i64 i/\v=.int .i64 (k0+1 * (i:Int))/\RI wr a (n * 1) (fun j=>if j<i * 1 then k0+(j:Int) else f j)/\w.grownBy wr (Value.slice a n cap).ownBlock) (fun _ ii _=>n - (intOf ii).toNat)
 case atStart=>exact⟨0,Nat.zero_le _,rfl,by simp,h.like (fun j _=>by simp),World.grownBy.refl _ _⟩
 case round =>
  rename World=>wo
  obtain⟨i,hi,rfl,rfl,hR,hg⟩:=hrel
  by_cases hlt:i<n
  ·obtain⟨g,ea,hgl,hc⟩:=hR.at (by omega)
   subst ea
   have hil:(i:Int)<(n:Int):=by omega
   obtain⟨c0,z0⟩:=hc (i) (by omega)
   obtain⟨u0,eu0⟩:∃ u,(if i<i * 1 then k0+((i:Nat):Int) else f (i))=u:=⟨_,rfl⟩
   simp only[eu0] at c0
   have hR0:RI (wo.setCell ⟨g,i,none⟩ (.int .i64 (k0+(i:Int)))) (some ⟨g,0,none⟩) (n * 1) (fun j=>if j<i * 1+1 then k0+(j:Int) else f j):=hR.put (i) (k0+(i:Int)) (by omega) (by rw[if_pos (by omega)];try omega) (fun j hj hne=>by by_cases z:j<i * 1;rw[if_pos (by omega),if_pos (by omega)];rw[if_neg (by omega),if_neg (by omega)])
   have hg2:w.grownBy (wo.setCell ⟨g,i,none⟩ (.int .i64 (k0+(i:Int)))) (Value.slice (some ⟨g,0,none⟩) n cap).ownBlock:=⟨hg.os,hg.tape,hg.output,by simpa using hg.size,fun j hj hne=>by
    have hjg:j≠g:=fun e=>hne (by simp[Value.ownBlock,e])
    rw[Below.heap_setCell _ _ _ _ hjg]
    exact hg.block j hj hne⟩
   have HF:Hid (RI (wo.setCell ⟨g,i,none⟩ (.int .i64 (k0+(i:Int)))) (some ⟨g,0,none⟩) (n * 1) (fun j=>if j<(i+1) * 1 then k0+(j:Int) else f j)):=hR0.like (fun j _=>by rw[show (i+1) * 1=i * 1+1 by omega])
   clear hc hR hR0 eu0
   go_wp2_with fail
   go_roundw
   case rel=>exact⟨i+1,by omega,by go_num,by go_num,HF.out,hg2⟩
   case measure=>simp[intOf];omega
  ·have hin:i=n:=by omega
   subst hin
   go_wp2_with fail
   go_ret
   exact⟨rfl,hR.like (fun j hj=>by rw[if_pos hj]),hg⟩
theorem zeP(k0:Int)(a:Option Addr)(n cap:Nat)(w:World)(h:RI w a (n * 1) (fun j=>k0+(j:Int)))(hm:n<=1048576)(hk0:0<=k0/\k0<=1099511627776) :
  Calls (SqG.prog aLt) 14 #[.slice a n cap,.int .i64 k0] w fun e w'=>e=.returned (.int .i64 (k0+1 * (n:Int)))/\w'=w:=by
 go_enter SqG.func14,Tryz.ntmps14
 go_wp2_with fail
 go_loopw [1,5] (fun v ii wr=>∃ i:Nat,i<=n/\ii=.int .i64 i/\v=.int .i64 (k0+1 * (i:Int))/\wr=w) (fun _ ii _=>n - (intOf ii).toNat)
 case atStart=>exact⟨0,Nat.zero_le _,rfl,by simp,rfl⟩
 case round =>
  obtain⟨i,hi,rfl,rfl,rfl⟩:=hrel
  by_cases hlt:i<n
  ·obtain⟨g,ea,hgl,hc⟩:=h.at (by omega)
   subst ea
   have hil:(i:Int)<(n:Int):=by omega
   have c0:wr.cell? ⟨g,i,none⟩=some (.int .i64 (k0+(i:Int))):=by rw[(hc (i) (by omega)).1]
   have b0:(k0+(i:Int) != k0+(i:Int))=false:=by simp
   clear hc h
   go_wp2_with fail
   go_roundw
   case rel=>exact⟨i+1,by omega,by go_num,by go_num,by first|trivial|rfl⟩
   case measure=>simp[intOf];omega
  ·have hin:i=n:=by omega
   subst hin
   go_wp2_with fail
   go_ret
   exact⟨rfl,rfl⟩
end Sp
namespace Sp
variable{aLt:Nat->Func->Func}
open Go.RowKit
theorem zmI(k l:Int)(w:World) :
  Calls (SqG.prog aLt) 39 #[.agg #[.int .i64 k,.int .i64 l]] w fun e w'=>e=.returned (.agg #[.int .i64 k,.int .i64 l])/\Below w.heap.size w w':=by
 go_enter SqG.func39,Tryz.ntmps39
 go_wp2
 refine bodyPost_ret (v:=.agg #[.int .i64 k,.int .i64 l]) (by simp[results,Tryz.results39,go_sem]) rfl ⟨rfl,?_⟩
 exact bel
theorem zkl(a:Option Addr)(n cap:Nat)(left:Int)(w:World)(hm:n<=9223372036854775807)(hl:0<=left/\left<=1048576) :
  Calls (SqG.prog aLt) 49 #[.slice a n cap,.int .i64 left] w fun e w'=>e=.returned (.int .i64 (if left - n<0 then -1 else left - n))/\w'=w:=by
 by_cases h:left - n<0
 all_goals
  go_enter SqG.func49,Tryz.ntmps49
  go_wp2
  go_ret
  exact⟨rfl,rfl⟩
theorem zeI(wd:Int)(a:Option Addr)(n cap:Nat)(left:Int)(w:World)(hm:n<=9223372036854775807)(hl:0<=left/\left<=1048576) :
  Calls (SqG.prog aLt) 25 #[.agg #[.int .i64 wd,.slice a n cap],.int .i64 left] w fun e w'=>e=.returned (.int .i64 (if left - n<0 then -1 else left - n))/\Below w.heap.size w w':=by
 by_cases h:left - n<0
 all_goals
  go_enter SqG.func25,Tryz.ntmps25
  go_wp2_with (go_at_call 49;refine(zkl _ _ _ _ _ hm hl).mono ?_;rintro e w' ⟨rfl,rfl⟩)
  go_ret
  exact⟨rfl,bel⟩
theorem zkr(a:Option Addr)(cap:Nat)(cs:List (Int × Int))(w:World)(h:zak w a cs)(hm:cs.length<=1048576) :
  Calls (SqG.prog aLt) 53 #[.slice a cs.length cap] w fun e w'=>∃ g,e=.returned (.slice (some ⟨g,0,none⟩) cs.length cs.length)/\Own w' w.heap.size (.slice (some ⟨g,0,none⟩) cs.length cs.length) cs/\Below w.heap.size w w':=by
 obtain⟨i0,hi,hz0,hz1,hz2⟩:=info_parts (zhD (aLt:=aLt))
 go_enter SqG.func53,Tryz.ntmps53
 go_wp2_with (at_make;refine wpList_make_full _ rfl _ _ 31 rfl w.heap.size 48 i0 (.agg #[.int .i64 0,.int .i64 0]) 2 SqG.underlying31 hi hz0 hz1 .i64 .i64 _ _ cs.length rfl rfl rfl rfl ?_ ?_ ?_ ?_)
 ·rw[hz2];omega
 ·unfold maxLen;omega
 ·exact Nat.le_refl _
 intro w1 hO1 hg1
 have HO1:Own w1 w.heap.size (.slice (some ⟨w.heap.size,0,none⟩) cs.length cs.length) (List.replicate cs.length (0,0)):=by
  unfold Own
  rw[List.length_replicate,<- zpZ]
  exact hO1
 have hb1:Below w.heap.size w w1:=(Below.refl _ _).grown hg1 (Nat.le_refl _) (fun k hk=>by cases hk)
 have hz:=HO1.lt.2
 clear hO1 hg1
 go_wp2
 go_loopw [4] (fun i wr=>∃ k:Nat,k<=cs.length/\i=.int .i64 k/\Own wr w.heap.size (.slice (some ⟨w.heap.size,0,none⟩) cs.length cs.length) (cs.take k++List.replicate (cs.length - k) (0,0))/\Below w.heap.size w wr) (fun i _=>cs.length - (intOf i).toNat)
 case atStart=>exact⟨0,Nat.zero_le _,rfl,by simpa using HO1,hb1⟩
 case round =>
  obtain⟨k,hk,rfl,hO,hb⟩:=hrel
  by_cases hlt:k<cs.length
  ·rcases h with h|⟨b,off,rfl,hbl,hcell⟩
   ·subst h;simp at hlt
   obtain⟨hx,hy⟩:=hcell k hlt
   rw[<- hb.cell (p:=⟨b,_,none⟩) hbl] at hx hy
   have hzr:=hb.size
   have hzo:=hO.lt.2
   go_wp2_with fail
   refine(zmI _ _ _).mono ?_
   rintro e w2 ⟨rfl,hb2⟩
   have hO2:=hO.below hb2
   obtain⟨c1,c2,f1,f2⟩:=hO2.cell (by simp;omega) k hlt
   go_wp2
   go_roundw
   case rel=>exact⟨k+1,by omega,by go_num,by rw[<- zql cs k hlt];exact hO2.set (by simp;omega) k _ _ hlt,((zaj hb (by omega) hb2).setCell (p:=⟨w.heap.size,k * 2,none⟩) (Nat.le_refl _) _).setCell (p:=⟨w.heap.size,k * 2+1,none⟩) (Nat.le_refl _) _⟩
   case measure=>simp[intOf];omega
  ·go_wp2
   go_ret
   exact⟨_,rfl,by rw[List.take_of_length_le (by omega),show cs.length - k=0 by omega] at hO;simpa using hO,hb⟩
theorem zmJ(wd:Int)(a:Option Addr)(cap:Nat)(cs:List (Int × Int))(w:World)(h:zak w a cs)(hm:cs.length<=1048576) :
  Calls (SqG.prog aLt) 30 #[.agg #[.int .i64 wd,.slice a cs.length cap]] w fun e w'=>∃ g,e=.returned (.agg #[.int .i64 wd,.slice (some ⟨g,0,none⟩) cs.length cs.length])/\Own w' w.heap.size (.slice (some ⟨g,0,none⟩) cs.length cs.length) cs/\Below w.heap.size w w':=by
 go_enter SqG.func30,Tryz.ntmps30
 go_wp2_with fail
 refine(zkr _ _ cs _ (h.below bel) hm).mono ?_
 rintro e w1 ⟨g,rfl,hO,hb1⟩
 have hz:=hb1.size
 simp at hz
 have hg:=hO.lt.1
 simp at hg
 obtain⟨hc,hf⟩:=zs1 hb1
 have q0:w1.cell? ⟨w.heap.size+1+1,0,none⟩=some (.int .i64 wd):=by rw[hc (w.heap.size+1+1) 0 (by simp)];simp[go_sem]
 have q1:w1.cell? ⟨w.heap.size+1+1,1,none⟩=some (.slice none 0 0):=by rw[hc (w.heap.size+1+1) 1 (by simp)];simp[go_sem]
 have q2:w1.frozen? ⟨w.heap.size+1+1,1,none⟩=false:=by rw[hf (w.heap.size+1+1) 1 (by simp)];simp[go_sem]
 have q3:w1.cell? ⟨w.heap.size+1,0,none⟩=some (.int .i64 0):=by rw[hc (w.heap.size+1) 0 (by simp)];simp[go_sem]
 have q4:w1.cell? ⟨w.heap.size+1,1,none⟩=some (.slice none 0 0):=by rw[hc (w.heap.size+1) 1 (by simp)];simp[go_sem]
 have q5:w1.frozen? ⟨w.heap.size+1,0,none⟩=false:=by rw[hf (w.heap.size+1) 0 (by simp)];simp[go_sem]
 have q6:w1.frozen? ⟨w.heap.size+1,1,none⟩=false:=by rw[hf (w.heap.size+1) 1 (by simp)];simp[go_sem]
 clear hc hf
 go_wp2
 refine bodyPost_ret (v:=.agg #[.int .i64 wd,.slice (some ⟨g,0,none⟩) cs.length cs.length]) (by simp[results,Tryz.results30,go_sem,q3,q4]) rfl ⟨g,rfl,?_,?_⟩
 ·exact ownsRow_setCell_below (ownsRow_setCell_below (ownsRow_setCell_below hO (by simp) _) (by simp) _) (by simp) _ |> fun h=>Own.mono h (by simp;omega)
 ·exact(((zaj bel (by simp;omega) hb1).setCell (by simp;omega) _).setCell (by simp) _).setCell (by simp) _
def eqC(k l k2 l2:Int):Bool:=decide (k=k2/\l=l2)
theorem zgK(k l k2 l2:Int)(w:World) :
  Calls (SqG.prog aLt) 68 #[.agg #[.int .i64 k,.int .i64 l],.agg #[.int .i64 k2,.int .i64 l2]] w fun e w'=>e=.returned (.bool (eqC k l k2 l2))/\Below w.heap.size w w':=by
 by_cases h1:k=k2
 ·subst h1
  by_cases h2:l=l2
  ·subst h2
   go_enter SqG.func68,Tryz.ntmps68
   go_wp2
   go_ret
   exact⟨by simp[eqC],bel⟩
  ·go_enter SqG.func68,Tryz.ntmps68
   go_wp2
   go_ret
   exact⟨by simp[eqC,h2],bel⟩
 ·go_enter SqG.func68,Tryz.ntmps68
  go_wp2
  go_ret
  exact⟨by simp[eqC,h1],bel⟩
theorem zjB(a a2:Option Addr)(cap cap2:Nat)(cs ds:List (Int × Int))(w:World)(h:zak w a cs)(h2:zak w a2 ds)(hm:cs.length<=1048576)(hm2:ds.length<=1048576) :
  Calls (SqG.prog aLt) 57 #[.slice a cs.length cap,.slice a2 ds.length cap2] w fun e w'=>e=.returned (.bool (decide (cs=ds)))/\Below w.heap.size w w':=by
 by_cases hl:cs.length=ds.length
 ·go_enter SqG.func57,Tryz.ntmps57
  go_wp2
  go_loopw [5] (fun i wr=>∃ k:Nat,k<=cs.length/\i=.int .i64 k/\cs.take k=ds.take k/\Below w.heap.size w wr) (fun i _=>cs.length - (intOf i).toNat)
  case atStart=>exact⟨0,Nat.zero_le _,rfl,by simp,bel⟩
  case round =>
   obtain⟨k,hk,rfl,htk,hb⟩:=hrel
   have HT:Hid (cs.take k=ds.take k):=htk
   clear htk
   by_cases hlt:k<cs.length
   ·have hlt2:k<ds.length:=by omega
    rcases h with h|⟨b,off,rfl,hbl,hcell⟩
    ·subst h;simp at hlt
    rcases h2 with h2|⟨b2,off2,rfl,hbl2,hcell2⟩
    ·subst h2;simp at hlt2
    obtain⟨hx,hy⟩:=hcell k hlt
    rw[<- hb.cell (p:=⟨b,_,none⟩) hbl] at hx hy
    obtain⟨hx2,hy2⟩:=hcell2 k hlt2
    rw[<- hb.cell (p:=⟨b2,_,none⟩) hbl2] at hx2 hy2
    have hzr:=hb.size
    have HL:Hid (cs.length=ds.length):=hl
    clear hl hcell hcell2
    by_cases hq:eqC cs[k].1 cs[k].2 ds[k].1 ds[k].2=true
    ·have HN:Hid (cs.take (k+1)=ds.take (k+1)):=by
      show _=_
      rw[List.take_succ_eq_append_getElem hlt,List.take_succ_eq_append_getElem hlt2,HT.out]
      simp only[eqC,decide_eq_true_eq] at hq
      rw[Prod.ext hq.1 hq.2]
     go_wp2_with fail
     go_region_with (go_at_call 68;refine(zgK _ _ _ _ _).mono ?_;rintro e w2 ⟨rfl,hb2⟩)
     all_goals
      go_wp2
      go_roundw
      case rel=>exact⟨k+1,by omega,by go_num,HN.out,zaj hb.drew hzr hb2⟩
      case measure=>simp[intOf];omega
    ·have hq':eqC cs[k].1 cs[k].2 ds[k].1 ds[k].2=false:=by simpa using hq
     clear hq
     have HN:Hid (decide (cs=ds)=false):=by
      show _=_
      simp
      intro hx
      subst hx
      simp[eqC] at hq'
     go_wp2_with fail
     go_region_with (go_at_call 68;refine(zgK _ _ _ _ _).mono ?_;rintro e w2 ⟨rfl,hb2⟩)
     all_goals
      go_wp2
      go_ret
      exact⟨by rw[HN.out];rfl,zaj hb.drew hzr hb2⟩
   ·have HN:Hid (decide (cs=ds)=true):=by
     show _=_
     have:=HT.out
     rw[List.take_of_length_le (by omega),List.take_of_length_le (by omega)] at this
     simp[this]
    go_wp2
    go_ret
    exact⟨by rw[HN.out];rfl,hb⟩
 ·go_enter SqG.func57,Tryz.ntmps57
  go_wp2
  go_ret
  exact⟨by rw[show decide (cs=ds)=false from by simp;intro hx;exact hl (by rw[hx])];rfl,bel⟩
def eqG(wd wd2:Int)(cs ds:List (Int × Int)):Bool:=decide (wd=wd2/\cs=ds)
theorem zlE(wd wd2:Int)(a a2:Option Addr)(cap cap2:Nat)(cs ds:List (Int × Int))(w:World)(h:zak w a cs)(h2:zak w a2 ds)(hm:cs.length<=1048576)(hm2:ds.length<=1048576) :
  Calls (SqG.prog aLt) 35 #[.agg #[.int .i64 wd,.slice a cs.length cap],.agg #[.int .i64 wd2,.slice a2 ds.length cap2]] w fun e w'=>e=.returned (.bool (eqG wd wd2 cs ds))/\Below w.heap.size w w':=by
 by_cases h1:wd=wd2
 ·subst h1
  have hd:eqG wd wd cs ds=decide (cs=ds):=by simp[eqG]
  by_cases hc:decide (cs=ds)=true
  all_goals
   go_enter SqG.func35,Tryz.ntmps35
   go_wp2_with fail
   refine(zjB _ _ _ _ cs ds _ (h.below bel) (h2.below bel) hm hm2).mono ?_
   rintro e w1 ⟨rfl,hb1⟩
   go_wp2
   go_ret
   exact⟨by rw[hd];simp[hc],zaj bel (by simp;omega) hb1⟩
 ·go_enter SqG.func35,Tryz.ntmps35
  go_wp2
  go_ret
  exact⟨by simp[eqG,h1],bel⟩
def marks(k:Int)(n:Nat):List (Int × Int):=(List.range n).map fun (i:Nat)=>(k+2 * (i:Int),k+2 * (i:Int)+1)
theorem zfQ(k:Int)(n:Nat):(marks k n).length=n:=by simp[marks]
theorem zlS(k:Int)(cs:List (Int × Int))(i:Nat)(h:i<cs.length):(marks k i++cs.drop i).set i (k+2 * (i:Int),k+2 * (i:Int)+1)=marks k (i+1)++cs.drop (i+1):=by
 rw[List.set_append_right _ _ (by rw[zfQ];omega),zfQ,Nat.sub_self,List.drop_eq_getElem_cons h,List.set_cons_zero]
 simp only[marks,List.range_succ,List.map_append,List.map_cons,List.map_nil,List.append_assoc,List.cons_append,List.nil_append]
theorem zhF(k0:Int)(B g n cap:Nat)(cs:List (Int × Int))(w:World)(hO:Own w B (.slice (some ⟨g,0,none⟩) n cap) cs)(hn:cs.length=n)(hm:n<=1048576)(hk0:0<=k0/\k0<=1099511627776) :
  Calls (SqG.prog aLt) 58 #[.slice (some ⟨g,0,none⟩) n cap,.int .i64 k0] w fun e w'=>e=.returned (.int .i64 (k0+2 * n))/\Own w' B (.slice (some ⟨g,0,none⟩) n cap) (marks k0 n)/\w.grownBy w' (some g):=by
 go_enter SqG.func58,Tryz.ntmps58
 go_wp2
 go_loopw [1,5] (fun v i wr=>∃ k:Nat,k<=n/\i=.int .i64 k/\v=.int .i64 (k0+2 * k)/\Own wr B (.slice (some ⟨g,0,none⟩) n cap) (marks k0 k++cs.drop k)/\w.grownBy wr (some g)) (fun _ i _=>n - (intOf i).toNat)
 case atStart=>exact⟨0,Nat.zero_le _,rfl,by simp,by simpa [marks] using hO,World.grownBy.refl _ _⟩
 case round =>
  obtain⟨k,hk,rfl,rfl,hOk,hg⟩:=hrel
  by_cases hlt:k<n
  ·have hlen:(marks k0 k++cs.drop k).length=n:=by simp[zfQ];omega
   obtain⟨c1,c2,f1,f2⟩:=hOk.cell hlen k hlt
   have HS:=hOk.set hlen k (k0+2 * (k:Int)) (k0+2 * (k:Int)+1) hlt
   rw[zlS k0 cs k (by omega)] at HS
   clear hO hOk hlen
   go_wp2
   go_roundw
   case rel=>exact⟨k+1,by omega,by go_num,by go_num,HS,⟨hg.os,hg.tape,hg.output,by simpa using hg.size,fun j hj hne=>by rw[Below.heap_setCell _ _ _ _ (by intro e;exact hne (by simp[e])),Below.heap_setCell _ _ _ _ (by intro e;exact hne (by simp[e]))];exact hg.block j hj hne⟩⟩
   case measure=>simp[intOf];omega
  ·have hkn:k=n:=by omega
   subst hkn
   go_wp2
   go_ret
   exact⟨rfl,by rw[List.drop_of_length_le (by omega),List.append_nil] at hOk;exact hOk,hg⟩
theorem ziE(wd k0:Int)(B g n cap:Nat)(cs:List (Int × Int))(w:World)(hO:Own w B (.slice (some ⟨g,0,none⟩) n cap) cs)(hn:cs.length=n)(hm:n<=1048576)(hk0:0<=k0/\k0<=1099511627776) :
  Calls (SqG.prog aLt) 37 #[.agg #[.int .i64 wd,.slice (some ⟨g,0,none⟩) n cap],.int .i64 k0] w fun e w'=>e=.returned (.int .i64 (k0+2 * n))/\Own w' B (.slice (some ⟨g,0,none⟩) n cap) (marks k0 n)/\w.grownBy w' (some g):=by
 go_enter SqG.func37,Tryz.ntmps37
 go_wp2_with fail
 refine(zhF k0 B g n cap cs _ (hO.alloc _) hn hm hk0).mono ?_
 rintro e w1 ⟨rfl,hO1,hg1⟩
 go_wp2
 go_ret
 exact⟨rfl,hO1,⟨hg1.os,hg1.tape,hg1.output,by have:=hg1.size;simp at this;omega,fun j hj hne=>by rw[hg1.block j (by simp;omega) hne];exact Below.heap_alloc _ _ _ hj⟩⟩
theorem zhG(k0:Int)(a:Option Addr)(cap:Nat)(w:World) :
  Calls (SqG.prog aLt) 58 #[.slice a 0 cap,.int .i64 k0] w fun e w'=>e=.returned (.int .i64 k0)/\w'=w:=by
 go_enter SqG.func58,Tryz.ntmps58
 go_wp2
 go_loop [1,5] (fun v i=>v=.int .i64 k0/\i=.int .i64 0) (fun _ _=>0)
 case atStart=>exact⟨rfl,rfl⟩
 case round =>
  obtain⟨rfl,rfl⟩:=hrel
  go_wp2
  go_ret
  exact⟨rfl,rfl⟩
theorem ziF(wd k0:Int)(B:Nat)(v:Value)(cs:List (Int × Int))(w:World)(hO:Own w B v cs)(hm:cs.length<=1048576)(hk0:0<=k0/\k0<=1099511627776) :
  Calls (SqG.prog aLt) 37 #[.agg #[.int .i64 wd,v],.int .i64 k0] w fun e w'=>e=.returned (.int .i64 (k0+2 * cs.length))/\Own w' B v (marks k0 cs.length)/\w.grownBy w' v.ownBlock:=by
 obtain⟨h1,h2⟩:=hO
 rcases h2 with ⟨rfl,h2⟩|⟨g,cap,cur,rfl,hg,hh,r⟩
 ·obtain rfl:cs=[]:=List.length_eq_zero_iff.1 h2
  go_enter SqG.func37,Tryz.ntmps37
  go_wp2_with fail
  refine(zhG k0 _ _ _).mono ?_
  rintro e w1 ⟨rfl,rfl⟩
  go_wp2
  go_ret
  exact⟨by simp,World.ownsRow_nil _ _ _ _,World.grownBy_alloc _ _ _⟩
 ·refine(ziE wd k0 B g cs.length cap cs w ⟨h1,Or.inr ⟨g,cap,cur,rfl,hg,hh,r⟩⟩ rfl hm hk0).mono ?_
  rintro e w' ⟨rfl,h,hgr⟩
  exact⟨rfl,h,hgr⟩
theorem Own.range{B:Nat}{v:Value}(h:Own w B v cs):∀ k,v.ownBlock=some k->B<=k/\k<w.heap.size:=World.ownsRow.lt h
