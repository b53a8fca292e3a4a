/- Part. -/
import Derived.Deep.RegionWith
import Derived.Test.YtnlhffcgaeooiaaGreatMAy
set_option maxHeartbeats 400000
set_option linter.unusedVariables false
namespace Go.Proofs.YtnlhffcgaeooiaaGreat
variable{cs:List (Int × Int)}{m:Nat}{f:Nat->Int}{a:Option Addr}{w:World}
namespace Sp
variable{aLt:Nat->Func->Func}
open Go.RowKit
theorem zgY(k l:Int)(w:World) :
  Calls (SqG.prog aLt) 65 #[.agg #[.int .i64 k,.int .i64 l]] w fun e w'=>e=.returned (.agg #[.int .i64 k,.int .i64 l])/\Below w.heap.size w w':=by
 go_enter SqG.func65,Tryz.ntmps65
 go_wp2
 refine bodyPost_ret (v:=.agg #[.int .i64 k,.int .i64 l]) (by simp[results,Tryz.results65,go_sem]) rfl ⟨rfl,?_⟩
 exact bel
theorem zjV(a:Option Addr)(n cap:Nat)(left:Int)(w:World)(hm:n<=9223372036854775807)(hl:0<=left/\left<=1048576) :
  Calls (SqG.prog aLt) 44 #[.slice a n cap,.int .i64 left] w fun e w'=>e=.returned (.int .i64 (if left - n<0 then -1 else left - n))/\w'=w:=by
 by_cases h:left - n<0
 all_goals
  go_enter SqG.func44,Tryz.ntmps44
  go_wp2
  go_ret
  exact⟨rfl,rfl⟩
theorem zev(wd:Int)(a:Option Addr)(n cap:Nat)(left:Int)(w:World)(hm:n<=9223372036854775807)(hl:0<=left/\left<=1048576) :
  Calls (SqG.prog aLt) 21 #[.agg #[.int .i64 wd,.slice a n cap],.int .i64 left] w fun e w'=>e=.returned (.int .i64 (if left - n<0 then -1 else left - n))/\Below w.heap.size w w':=by
 by_cases h:left - n<0
 all_goals
  go_enter SqG.func21,Tryz.ntmps21
  go_wp2_with (go_at_call 44;refine(zjV _ _ _ _ _ hm hl).mono ?_;rintro e w' ⟨rfl,rfl⟩)
  go_ret
  exact⟨rfl,bel⟩
theorem zj1(a:Option Addr)(cap:Nat)(cs:List (Int × Int))(w:World)(h:zaj w a cs)(hm:cs.length<=1048576) :
  Calls (SqG.prog aLt) 49 #[.slice a cs.length cap] w fun e w'=>∃ g,e=.returned (.slice (some ⟨g,0,none⟩) cs.length cs.length)/\Own w' w.heap.size (.slice (some ⟨g,0,none⟩) cs.length cs.length) cs/\Below w.heap.size w w':=by
 obtain⟨i0,hi,hz0,hz1,hz2⟩:=info_parts (zhq (aLt:=aLt))
 go_enter SqG.func49,Tryz.ntmps49
 go_wp2_with (at_make;refine wpList_make_full _ rfl _ _ 31 rfl w.heap.size 89 i0 (.agg #[.int .i64 0,.int .i64 0]) 2 SqG.underlying31 hi hz0 hz1 .i64 .i64 _ _ cs.length rfl rfl rfl rfl ?_ ?_ ?_ ?_)
 ·rw[hz2];omega
 ·unfold maxLen;omega
 ·exact Nat.le_refl _
 intro w1 hO1 hg1
 have HO1:Own w1 w.heap.size (.slice (some ⟨w.heap.size,0,none⟩) cs.length cs.length) (List.replicate cs.length (0,0)):=by
  unfold Own
  rw[List.length_replicate,<- zpr]
  exact hO1
 have hb1:Below w.heap.size w w1:=(Below.refl _ _).grown hg1 (Nat.le_refl _) (fun k hk=>by cases hk)
 have hz:=HO1.lt.2
 clear hO1 hg1
 go_wp2
 go_loopw [4] (fun i wr=>∃ k:Nat,k<=cs.length/\i=.int .i64 k/\Own wr w.heap.size (.slice (some ⟨w.heap.size,0,none⟩) cs.length cs.length) (cs.take k++List.replicate (cs.length - k) (0,0))/\Below w.heap.size w wr) (fun i _=>cs.length - (intOf i).toNat)
 case atStart=>exact⟨0,Nat.zero_le _,rfl,by simpa using HO1,hb1⟩
 case round =>
  obtain⟨k,hk,rfl,hO,hb⟩:=hrel
  by_cases hlt:k<cs.length
  ·rcases h with h|⟨b,off,rfl,hbl,hcell⟩
   ·subst h;simp at hlt
   obtain⟨hx,hy⟩:=hcell k hlt
   rw[<- hb.cell (p:=⟨b,_,none⟩) hbl] at hx hy
   have hzr:=hb.size
   have hzo:=hO.lt.2
   go_wp2_with fail
   refine(zgY _ _ _).mono ?_
   rintro e w2 ⟨rfl,hb2⟩
   have hO2:=hO.below hb2
   obtain⟨c1,c2,f1,f2⟩:=hO2.cell (by simp;omega) k hlt
   go_wp2
   go_roundw
   case rel=>exact⟨k+1,by omega,by go_num,by rw[<- zpK cs k hlt];exact hO2.set (by simp;omega) k _ _ hlt,((zai hb (by omega) hb2).setCell (p:=⟨w.heap.size,k * 2,none⟩) (Nat.le_refl _) _).setCell (p:=⟨w.heap.size,k * 2+1,none⟩) (Nat.le_refl _) _⟩
   case measure=>simp[intOf];omega
  ·go_wp2
   go_ret
   exact⟨_,rfl,by rw[List.take_of_length_le (by omega),show cs.length - k=0 by omega] at hO;simpa using hO,hb⟩
theorem zl9(wd:Int)(a:Option Addr)(cap:Nat)(cs:List (Int × Int))(w:World)(h:zaj w a cs)(hm:cs.length<=1048576) :
  Calls (SqG.prog aLt) 26 #[.agg #[.int .i64 wd,.slice a cs.length cap]] w fun e w'=>∃ g,e=.returned (.agg #[.int .i64 wd,.slice (some ⟨g,0,none⟩) cs.length cs.length])/\Own w' w.heap.size (.slice (some ⟨g,0,none⟩) cs.length cs.length) cs/\Below w.heap.size w w':=by
 go_enter SqG.func26,Tryz.ntmps26
 go_wp2_with fail
 refine(zj1 _ _ cs _ (h.below bel) hm).mono ?_
 rintro e w1 ⟨g,rfl,hO,hb1⟩
 have hz:=hb1.size
 simp at hz
 have hg:=hO.lt.1
 simp at hg
 obtain⟨hc,hf⟩:=zsn hb1
 have q0:w1.cell? ⟨w.heap.size+1+1,0,none⟩=some (.int .i64 wd):=by rw[hc (w.heap.size+1+1) 0 (by simp)];simp[go_sem]
 have q1:w1.cell? ⟨w.heap.size+1+1,1,none⟩=some (.slice none 0 0):=by rw[hc (w.heap.size+1+1) 1 (by simp)];simp[go_sem]
 have q2:w1.frozen? ⟨w.heap.size+1+1,1,none⟩=false:=by rw[hf (w.heap.size+1+1) 1 (by simp)];simp[go_sem]
 have q3:w1.cell? ⟨w.heap.size+1,0,none⟩=some (.int .i64 0):=by rw[hc (w.heap.size+1) 0 (by simp)];simp[go_sem]
 have q4:w1.cell? ⟨w.heap.size+1,1,none⟩=some (.slice none 0 0):=by rw[hc (w.heap.size+1) 1 (by simp)];simp[go_sem]
 have q5:w1.frozen? ⟨w.heap.size+1,0,none⟩=false:=by rw[hf (w.heap.size+1) 0 (by simp)];simp[go_sem]
 have q6:w1.frozen? ⟨w.heap.size+1,1,none⟩=false:=by rw[hf (w.heap.size+1) 1 (by simp)];simp[go_sem]
 clear hc hf
 go_wp2
 refine bodyPost_ret (v:=.agg #[.int .i64 wd,.slice (some ⟨g,0,none⟩) cs.length cs.length]) (by simp[results,Tryz.results26,go_sem,q3,q4]) rfl ⟨g,rfl,?_,?_⟩
 ·exact ownsRow_setCell_below (ownsRow_setCell_below (ownsRow_setCell_below hO (by simp) _) (by simp) _) (by simp) _ |> fun h=>Own.mono h (by simp;omega)
 ·exact(((zai bel (by simp;omega) hb1).setCell (by simp;omega) _).setCell (by simp) _).setCell (by simp) _
def eqC(k l k2 l2:Int):Bool:=decide (k=k2/\l=l2)
theorem zek(k l k2 l2:Int)(w:World) :
  Calls (SqG.prog aLt) 77 #[.agg #[.int .i64 k,.int .i64 l],.agg #[.int .i64 k2,.int .i64 l2]] w fun e w'=>e=.returned (.bool (eqC k l k2 l2))/\Below w.heap.size w w':=by
 by_cases h1:k=k2
 ·subst h1
  by_cases h2:l=l2
  ·subst h2
   go_enter SqG.func77,Tryz.ntmps77
   go_wp2
   go_ret
   exact⟨by simp[eqC],bel⟩
  ·go_enter SqG.func77,Tryz.ntmps77
   go_wp2
   go_ret
   exact⟨by simp[eqC,h2],bel⟩
 ·go_enter SqG.func77,Tryz.ntmps77
  go_wp2
  go_ret
  exact⟨by simp[eqC,h1],bel⟩
theorem zjh(a a2:Option Addr)(cap cap2:Nat)(cs ds:List (Int × Int))(w:World)(h:zaj w a cs)(h2:zaj w a2 ds)(hm:cs.length<=1048576)(hm2:ds.length<=1048576) :
  Calls (SqG.prog aLt) 55 #[.slice a cs.length cap,.slice a2 ds.length cap2] w fun e w'=>e=.returned (.bool (decide (cs=ds)))/\Below w.heap.size w w':=by
 by_cases hl:cs.length=ds.length
 ·go_enter SqG.func55,Tryz.ntmps55
  go_wp2
  go_loopw [5] (fun i wr=>∃ k:Nat,k<=cs.length/\i=.int .i64 k/\cs.take k=ds.take k/\Below w.heap.size w wr) (fun i _=>cs.length - (intOf i).toNat)
  case atStart=>exact⟨0,Nat.zero_le _,rfl,by simp,bel⟩
  case round =>
   obtain⟨k,hk,rfl,htk,hb⟩:=hrel
   have HT:Hid (cs.take k=ds.take k):=htk
   clear htk
   by_cases hlt:k<cs.length
   ·have hlt2:k<ds.length:=by omega
    rcases h with h|⟨b,off,rfl,hbl,hcell⟩
    ·subst h;simp at hlt
    rcases h2 with h2|⟨b2,off2,rfl,hbl2,hcell2⟩
    ·subst h2;simp at hlt2
    obtain⟨hx,hy⟩:=hcell k hlt
    rw[<- hb.cell (p:=⟨b,_,none⟩) hbl] at hx hy
    obtain⟨hx2,hy2⟩:=hcell2 k hlt2
    rw[<- hb.cell (p:=⟨b2,_,none⟩) hbl2] at hx2 hy2
    have hzr:=hb.size
    have HL:Hid (cs.length=ds.length):=hl
    clear hl hcell hcell2
    by_cases hq:eqC cs[k].1 cs[k].2 ds[k].1 ds[k].2=true
    ·have HN:Hid (cs.take (k+1)=ds.take (k+1)):=by
      show _=_
      rw[List.take_succ_eq_append_getElem hlt,List.take_succ_eq_append_getElem hlt2,HT.out]
      simp only[eqC,decide_eq_true_eq] at hq
      rw[Prod.ext hq.1 hq.2]
     go_wp2_with fail
     go_region_with (go_at_call 77;refine(zek _ _ _ _ _).mono ?_;rintro e w2 ⟨rfl,hb2⟩)
     all_goals
      go_wp2
      go_roundw
      case rel=>exact⟨k+1,by omega,by go_num,HN.out,zai hb.drew hzr hb2⟩
      case measure=>simp[intOf];omega
    ·have hq':eqC cs[k].1 cs[k].2 ds[k].1 ds[k].2=false:=by simpa using hq
     clear hq
     have HN:Hid (decide (cs=ds)=false):=by
      show _=_
      simp
      intro hx
      subst hx
      simp[eqC] at hq'
     go_wp2_with fail
     go_region_with (go_at_call 77;refine(zek _ _ _ _ _).mono ?_;rintro e w2 ⟨rfl,hb2⟩)
     all_goals
      go_wp2
      go_ret
      exact⟨by rw[HN.out];rfl,zai hb.drew hzr hb2⟩
   ·have HN:Hid (decide (cs=ds)=true):=by
     show _=_
     have:=HT.out
     rw[List.take_of_length_le (by omega),List.take_of_length_le (by omega)] at this
     simp[this]
    go_wp2
    go_ret
    exact⟨by rw[HN.out];rfl,hb⟩
 ·go_enter SqG.func55,Tryz.ntmps55
  go_wp2
  go_ret
  exact⟨by rw[show decide (cs=ds)=false from by simp;intro hx;exact hl (by rw[hx])];rfl,bel⟩
def eqG(wd wd2:Int)(cs ds:List (Int × Int)):Bool:=decide (wd=wd2/\cs=ds)
theorem zlb(wd wd2:Int)(a a2:Option Addr)(cap cap2:Nat)(cs ds:List (Int × Int))(w:World)(h:zaj w a cs)(h2:zaj w a2 ds)(hm:cs.length<=1048576)(hm2:ds.length<=1048576) :
  Calls (SqG.prog aLt) 32 #[.agg #[.int .i64 wd,.slice a cs.length cap],.agg #[.int .i64 wd2,.slice a2 ds.length cap2]] w fun e w'=>e=.returned (.bool (eqG wd wd2 cs ds))/\Below w.heap.size w w':=by
 by_cases h1:wd=wd2
 ·subst h1
  have hd:eqG wd wd cs ds=decide (cs=ds):=by simp[eqG]
  by_cases hc:decide (cs=ds)=true
  all_goals
   go_enter SqG.func32,Tryz.ntmps32
   go_wp2_with fail
   refine(zjh _ _ _ _ cs ds _ (h.below bel) (h2.below bel) hm hm2).mono ?_
   rintro e w1 ⟨rfl,hb1⟩
   go_wp2
   go_ret
   exact⟨by rw[hd];simp[hc],zai bel (by simp;omega) hb1⟩
 ·go_enter SqG.func32,Tryz.ntmps32
  go_wp2
  go_ret
  exact⟨by simp[eqG,h1],bel⟩
def marks(k:Int)(n:Nat):List (Int × Int):=(List.range n).map fun (i:Nat)=>(k+2 * (i:Int),k+2 * (i:Int)+1)
theorem Own.range{B:Nat}{v:Value}(h:Own w B v cs):∀ k,v.ownBlock=some k->B<=k/\k<w.heap.size:=World.ownsRow.lt h
end Sp
namespace Sp
variable{aLt:Nat->Func->Func}
open Go.RowKit
attribute [local go_sem ↓] Go.wp_at_zero Go.wp_at_succ
def RI(w:World)(a:Option Addr)(m:Nat)(f:Nat->Int):Prop:=m=0\/∃ g,a=some ⟨g,0,none⟩/\g<w.heap.size/\∀ j,j<m->w.cell? ⟨g,j,none⟩=some (.int .i64 (f j))/\w.frozen? ⟨g,j,none⟩=false
theorem RI.below{w':World}(h:RI w a m f)(hb:Below w.heap.size w w'):RI w' a m f:=by
 rcases h with h|⟨g,e,hg,hc⟩
 ·exact Or.inl h
 ·exact Or.inr ⟨g,e,nll hg hb.size,fun j hj=>⟨zab hb (hc j hj).1,zam hb (hc j hj).1 (hc j hj).2⟩⟩
theorem RI.like{f':Nat->Int}(h:RI w a m f)(e:∀ j,j<m->f' j=f j):RI w a m f':=by
 rcases h with h|⟨g,e1,hl,hc⟩
 ·exact Or.inl h
 ·exact Or.inr ⟨g,e1,hl,fun j hj=>by rw[e j hj];exact hc j hj⟩
theorem RI.at(h:RI w a m f)(hm:0<m):∃ g,a=some ⟨g,0,none⟩/\g<w.heap.size/\∀ j,j<m->w.cell? ⟨g,j,none⟩=some (.int .i64 (f j))/\w.frozen? ⟨g,j,none⟩=false:=by
 rcases h with h|h
 ·omega
 ·exact h
