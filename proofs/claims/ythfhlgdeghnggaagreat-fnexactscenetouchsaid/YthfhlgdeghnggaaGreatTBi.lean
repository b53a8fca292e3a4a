/- Part. -/
import Derived.Test.YthfhlgdeghnggaaGreatTBh
set_option maxHeartbeats 2000000
set_option linter.unusedVariables false
namespace Go.Proofs.YthfhlgdeghnggaaGreat
variable{arr:Array Value}{fs:List (List Int)}{xs:List Int}{B N g n:Nat}{a:Option Addr}{w w' w0:World}
namespace Sp
open Go.RowKit
attribute [local go_sem ↓] Go.wp_at_zero Go.wp_at_succ
theorem znl{a b:List Int}(hl:a.length=b.length)(h:∀ i,i<a.length->a.getD i 0=b.getD i 0):a=b:=by
 refine List.ext_getElem hl fun i h1 h2=>?_
 have:=h i h1
 simpa [List.getD,List.getElem?_eq_getElem h1,List.getElem?_eq_getElem h2] using this
theorem zkI{a b:List (List Int)}(hl:a.length=b.length)(h:∀ i,i<a.length->a.getD i []=b.getD i []):a=b:=by
 refine List.ext_getElem hl fun i h1 h2=>?_
 have:=h i h1
 simpa [List.getD,List.getElem?_eq_getElem h1,List.getElem?_eq_getElem h2] using this
def zde(w:World)(a:Option Addr)(fs:List (List Int)):Prop:=fs=[]\/∃ b off,a=some ⟨b,off,none⟩/\b<w.heap.size/\∀ k,k<fs.length->∃ a' c',w.cell? ⟨b,off+k,none⟩=some (.slice a' (fs.getD k []).length c')/\zcP w a' (fs.getD k [])
theorem zde.below(h:zde w a fs)(hb:Below w.heap.size w w'):zde w' a fs:=by
 rcases h with h|⟨b,off,rfl,hbl,hc⟩
 ·exact Or.inl h
 ·refine Or.inr ⟨b,off,rfl,nll hbl hb.size,fun k hk=>?_⟩
  obtain⟨a',c',h1,h2⟩:=hc k hk
  exact⟨a',c',zab hb h1,h2.below hb⟩
theorem zde.at{w:World}{a:Option Addr}{fs:List (List Int)}(h:zde w a fs){k:Nat}(hk:k<fs.length):∃ b off a' c',a=some ⟨b,off,none⟩/\w.cell? ⟨b,off+k,none⟩=some (.slice a' (fs.getD k []).length c')/\zcP w a' (fs.getD k []):=by
 rcases h with q|⟨b,off,e,hb,hc⟩
 ·rw[q] at hk;simp at hk
 ·obtain⟨a',c',h1,h2⟩:=hc k hk
  exact⟨b,off,a',c',e,h1,h2⟩
theorem zle(a a2:Option Addr)(c c2:Nat)(xs ys:List Int)(w:World)(h:zcP w a xs)(h2:zcP w a2 ys)(hm:xs.length<=1099511627776) :
  Calls SqP.prog 55 #[.slice a xs.length c,.slice a2 ys.length c2] w fun e w'=>e=.returned (.bool (decide (xs=ys)))/\Below w.heap.size w w':=by
 by_cases hl:xs.length=ys.length
 ·have bl:((xs.length:Int) != (ys.length:Int))=false:=by simp[hl]
  obtain⟨N,hN⟩:∃ N,xs.length=N:=⟨_,rfl⟩
  have hN2:ys.length=N:=by omega
  have HN:Hid (xs.length=N/\ys.length=N):=⟨hN,hN2⟩
  rw[hN,hN2] at bl ⊢
  rw[hN] at hm
  clear hl hN hN2
  go_enter SqP.func55,Tryz.ntmps55
  go_wp2_with fail
  go_loopw [13,5] (fun ii _ wr=>∃ i:Nat,i<=N/\ii=.int .i64 i/\(∀ j,j<i->xs.getD j 0=ys.getD j 0)/\Below w.heap.size w wr) (fun ii _ _=>N - (intOf ii).toNat)
  case atStart=>exact⟨0,Nat.zero_le _,rfl,fun j h=>by omega,Below.refl _ _⟩
  case round =>
   rename World=>wo
   obtain⟨i,hi,rfl,hsame,hb⟩:=hrel
   by_cases hlt:i<N
   ·obtain⟨g,o,rfl,_,x0⟩:=(h.below hb).at (i:=i) (by have:=HN.out;omega)
    obtain⟨g2,o2,rfl,_,y0⟩:=(h2.below hb).at (i:=i) (by have:=HN.out;omega)
    have hil:(i:Int)<(N:Int):=by omega
    have wk:IntKind.i64.wrap ((i:Int)+1)=(i:Int)+1:=IntWalk.i64_in _ (by omega)
    have HS:Hid (∀ j,j<i->xs.getD j 0=ys.getD j 0):=hsame
    obtain⟨x,ex⟩:∃ x,xs.getD i 0=x:=⟨_,rfl⟩
    obtain⟨y,ey⟩:∃ y,ys.getD i 0=y:=⟨_,rfl⟩
    have HX:Hid (xs.getD i 0=x/\ys.getD i 0=y):=⟨ex,ey⟩
    rw[ex] at x0
    rw[ey] at y0
    clear h h2 hsame ex ey
    by_cases hxy:x=y
    ·have hne:(x != y)=false:=by simp[hxy]
     have HE:Hid (x=y):=hxy
     clear hxy
     go_wp2_with fail
     go_quiet (fail)
     have hbq:Below w.heap.size w (wo.drewN nq):=⟨hb.os,hb.tape,hb.output,hb.size,hb.block⟩
     go_wp2_with fail
     go_roundw
     case rel =>
      refine⟨i+1,by omega,by go_num,fun j hj=>?_,hbq⟩
      rcases Nat.lt_succ_iff_lt_or_eq.1 hj with q|rfl
      ·exact HS.out j q
      ·rw[HX.out.1,HX.out.2];exact HE.out
     case measure=>simp[intOf];omega
    ·have hne:(x != y)=true:=by simp[hxy]
     have HE:Hid (¬ x=y):=hxy
     clear hxy
     go_wp2_with fail
     go_quiet (fail)
     have hbq:Below w.heap.size w (wo.drewN nq):=⟨hb.os,hb.tape,hb.output,hb.size,hb.block⟩
     go_wp2_with fail
     go_ret
     refine⟨?_,hbq⟩
     rw[show decide (xs=ys)=false from decide_eq_false fun e=>HE.out (by rw[<- HX.out.1,<- HX.out.2,e])]
     rfl
   ·have hil:¬ (i:Int)<(N:Int):=by omega
    have HS:Hid (∀ j,j<i->xs.getD j 0=ys.getD j 0):=hsame
    clear hsame
    go_wp2_with fail
    go_ret
    refine⟨?_,hb⟩
    rw[show decide (xs=ys)=true from decide_eq_true (znl (HN.out.1.trans HN.out.2.symm) fun j hj=>HS.out j (by have:=HN.out;omega))]
    rfl
 ·have bl:((xs.length:Int) != (ys.length:Int))=true:=by simp;omega
  have hd:decide (xs=ys)=false:=decide_eq_false (fun e=>hl (by rw[e]))
  rw[hd]
  clear hd hl
  go_enter SqP.func55,Tryz.ntmps55
  go_wp2_with fail
  go_ret
  exact⟨rfl,Below.refl _ _⟩
theorem zfO(a a2:Option Addr)(c c2:Nat)(xs ys:List Int)(w:World)(h:zcP w a xs)(h2:zcP w a2 ys)(hm:xs.length<=1099511627776) :
  Calls SqP.prog 51 #[.slice a xs.length c,.slice a2 ys.length c2] w fun e w'=>e=.returned (.bool (decide (xs=ys)))/\Below w.heap.size w w':=by
 by_cases hl:xs.length=ys.length
 ·have bl:((xs.length:Int) != (ys.length:Int))=false:=by simp[hl]
  obtain⟨N,hN⟩:∃ N,xs.length=N:=⟨_,rfl⟩
  have hN2:ys.length=N:=by omega
  have HN:Hid (xs.length=N/\ys.length=N):=⟨hN,hN2⟩
  rw[hN,hN2] at bl ⊢
  rw[hN] at hm
  clear hl hN hN2
  go_enter SqP.func51,Tryz.ntmps51
  go_wp2_with fail
  go_loopw [5] (fun ii  wr=>∃ i:Nat,i<=N/\ii=.int .i64 i/\(∀ j,j<i->xs.getD j 0=ys.getD j 0)/\Below w.heap.size w wr) (fun ii  _=>N - (intOf ii).toNat)
  case atStart=>exact⟨0,Nat.zero_le _,rfl,fun j h=>by omega,Below.refl _ _⟩
  case round =>
   rename World=>wo
   obtain⟨i,hi,rfl,hsame,hb⟩:=hrel
   by_cases hlt:i<N
   ·obtain⟨g,o,rfl,_,x0⟩:=(h.below hb).at (i:=i) (by have:=HN.out;omega)
    obtain⟨g2,o2,rfl,_,y0⟩:=(h2.below hb).at (i:=i) (by have:=HN.out;omega)
    have hil:(i:Int)<(N:Int):=by omega
    have wk:IntKind.i64.wrap ((i:Int)+1)=(i:Int)+1:=IntWalk.i64_in _ (by omega)
    have HS:Hid (∀ j,j<i->xs.getD j 0=ys.getD j 0):=hsame
    obtain⟨x,ex⟩:∃ x,xs.getD i 0=x:=⟨_,rfl⟩
    obtain⟨y,ey⟩:∃ y,ys.getD i 0=y:=⟨_,rfl⟩
    have HX:Hid (xs.getD i 0=x/\ys.getD i 0=y):=⟨ex,ey⟩
    rw[ex] at x0
    rw[ey] at y0
    clear h h2 hsame ex ey
    by_cases hxy:x=y
    ·have hne:(x != y)=false:=by simp[hxy]
     have HE:Hid (x=y):=hxy
     clear hxy
     go_wp2_with fail
     go_quiet (fail)
     have hbq:Below w.heap.size w (wo.drewN nq):=⟨hb.os,hb.tape,hb.output,hb.size,hb.block⟩
     go_wp2_with fail
     go_roundw
     case rel =>
      refine⟨i+1,by omega,by go_num,fun j hj=>?_,hbq⟩
      rcases Nat.lt_succ_iff_lt_or_eq.1 hj with q|rfl
      ·exact HS.out j q
      ·rw[HX.out.1,HX.out.2];exact HE.out
     case measure=>simp[intOf];omega
    ·have hne:(x != y)=true:=by simp[hxy]
     have HE:Hid (¬ x=y):=hxy
     clear hxy
     go_wp2_with fail
     go_quiet (fail)
     have hbq:Below w.heap.size w (wo.drewN nq):=⟨hb.os,hb.tape,hb.output,hb.size,hb.block⟩
     go_wp2_with fail
     go_ret
     refine⟨?_,hbq⟩
     rw[show decide (xs=ys)=false from decide_eq_false fun e=>HE.out (by rw[<- HX.out.1,<- HX.out.2,e])]
     rfl
   ·have hil:¬ (i:Int)<(N:Int):=by omega
    have HS:Hid (∀ j,j<i->xs.getD j 0=ys.getD j 0):=hsame
    clear hsame
    go_wp2_with fail
    go_ret
    refine⟨?_,hb⟩
    rw[show decide (xs=ys)=true from decide_eq_true (znl (HN.out.1.trans HN.out.2.symm) fun j hj=>HS.out j (by have:=HN.out;omega))]
    rfl
 ·have bl:((xs.length:Int) != (ys.length:Int))=true:=by simp;omega
  have hd:decide (xs=ys)=false:=decide_eq_false (fun e=>hl (by rw[e]))
  rw[hd]
  clear hd hl
  go_enter SqP.func51,Tryz.ntmps51
  go_wp2_with fail
  go_ret
  exact⟨rfl,Below.refl _ _⟩
theorem zou(a a2:Option Addr)(c c2:Nat)(xs ys:List (List Int))(w:World)(h:zde w a xs)(h2:zde w a2 ys)(hm:xs.length<=1099511627776)(hx:∀ k,k<xs.length->(xs.getD k []).length<=1099511627776) :
  Calls SqP.prog 56 #[.slice a xs.length c,.slice a2 ys.length c2,.func (.func 55) #[] #[]] w fun e w'=>e=.returned (.bool (decide (xs=ys)))/\Below w.heap.size w w':=by
 by_cases hl:xs.length=ys.length
 ·have bl:((xs.length:Int) != (ys.length:Int))=false:=by simp[hl]
  obtain⟨N,hN⟩:∃ N,xs.length=N:=⟨_,rfl⟩
  have hN2:ys.length=N:=by omega
  have HN:Hid (xs.length=N/\ys.length=N):=⟨hN,hN2⟩
  have HX0:Hid (∀ k,k<xs.length->(xs.getD k []).length<=1099511627776):=hx
  rw[hN,hN2] at bl ⊢
  rw[hN] at hm
  clear hl hN hN2 hx
  go_enter SqP.func56,Tryz.ntmps56
  go_wp2_with fail
  go_loopw [17,7,8,9] (fun ii _ _ _ wr=>∃ i:Nat,i<=N/\ii=.int .i64 i/\(∀ j,j<i->xs.getD j []=ys.getD j [])/\Below w.heap.size w wr) (fun ii _ _ _ _=>N - (intOf ii).toNat)
  case atStart=>exact⟨0,Nat.zero_le _,rfl,fun j h=>by omega,Below.refl _ _⟩
  case round =>
   rename World=>wo
   obtain⟨i,hi,rfl,hsame,hb⟩:=hrel
   have hzo:=hb.size
   by_cases hlt:i<N
   ·obtain⟨g,o,a3,c3,rfl,x0,hX⟩:=(h.below hb).at (k:=i) (by have:=HN.out;omega)
    obtain⟨g2,o2,a4,c4,rfl,y0,hY⟩:=(h2.below hb).at (k:=i) (by have:=HN.out;omega)
    have hxl:=HX0.out i (by have:=HN.out;omega)
    have hil:(i:Int)<(N:Int):=by omega
    have wk:IntKind.i64.wrap ((i:Int)+1)=(i:Int)+1:=IntWalk.i64_in _ (by omega)
    have HS:Hid (∀ j,j<i->xs.getD j []=ys.getD j []):=hsame
    obtain⟨x,ex⟩:∃ x,xs.getD i []=x:=⟨_,rfl⟩
    obtain⟨y,ey⟩:∃ y,ys.getD i []=y:=⟨_,rfl⟩
    have HX:Hid (xs.getD i []=x/\ys.getD i []=y):=⟨ex,ey⟩
    rw[ex] at x0 hX hxl
    rw[ey] at y0 hY
    have hC:=fun w hb=>zle a3 a4 c3 c4 x y w (hX.below hb) (hY.below hb) hxl
    clear h h2 hsame ex ey hX hY
    by_cases hxy:x=y
    ·rw[decide_eq_true hxy] at hC
     have HE:Hid (x=y):=hxy
     clear hxy
     go_wp2_with fail
     refine(hC _ (Below.refl _ _)).mono ?_
     rintro e w7 ⟨rfl,hb7⟩
     have hb8:=zaj hb hzo hb7
     go_wp2_with fail
     go_roundw
     case rel =>
      refine⟨i+1,by omega,by go_num,fun j hj=>?_,hb8⟩
      rcases Nat.lt_succ_iff_lt_or_eq.1 hj with q|rfl
      ·exact HS.out j q
      ·rw[HX.out.1,HX.out.2];exact HE.out
     case measure=>simp[intOf];omega
    ·rw[decide_eq_false hxy] at hC
     have HE:Hid (¬ x=y):=hxy
     clear hxy
     go_wp2_with fail
     refine(hC _ (Below.refl _ _)).mono ?_
     rintro e w7 ⟨rfl,hb7⟩
     have hb8:=zaj hb hzo hb7
     go_wp2_with fail
     go_ret
     refine⟨?_,hb8⟩
     rw[show decide (xs=ys)=false from decide_eq_false fun e=>HE.out (by rw[<- HX.out.1,<- HX.out.2,e])]
     rfl
   ·have hil:¬ (i:Int)<(N:Int):=by omega
    have HS:Hid (∀ j,j<i->xs.getD j []=ys.getD j []):=hsame
    clear hsame
    go_wp2_with fail
    go_ret
    refine⟨?_,hb⟩
    rw[show decide (xs=ys)=true from decide_eq_true (zkI (HN.out.1.trans HN.out.2.symm) fun j hj=>HS.out j (by have:=HN.out;omega))]
    rfl
 ·have bl:((xs.length:Int) != (ys.length:Int))=true:=by simp;omega
  have hd:decide (xs=ys)=false:=decide_eq_false (fun e=>hl (by rw[e]))
  rw[hd]
  clear hd hl
  go_enter SqP.func56,Tryz.ntmps56
  go_wp2_with fail
  go_ret
  exact⟨rfl,Below.refl _ _⟩
theorem zg3(a:Option Addr)(n cap:Nat)(left:Int)(w:World)(hm:n<=9223372036854775807)(hl:0<=left/\left<=1048576)(h:left - n<0) :
  Calls SqP.prog 26 #[.slice a n cap,.int .i64 left] w fun e w'=>e=.returned (.int .i64 (-1))/\w'=w:=by
 go_enter SqP.func26,Tryz.ntmps26
 go_wp2
 go_ret
 exact⟨rfl,rfl⟩
theorem zg4(a:Option Addr)(n cap:Nat)(left:Int)(w:World)(hm:n<=9223372036854775807)(hl:0<=left/\left<=1048576)(h:¬ left - n<0) :
  Calls SqP.prog 26 #[.slice a n cap,.int .i64 left] w fun e w'=>e=.returned (.int .i64 (left - n))/\w'=w:=by
 go_enter SqP.func26,Tryz.ntmps26
 go_wp2
 go_ret
 exact⟨rfl,rfl⟩
theorem zkm(a:Option Addr)(cap:Nat)(fs:List (List Int))(left:Int)(w:World)(h:zde w a fs)(hm:fs.length<=9223372036854775807)(hr:∀ k,k<fs.length->(fs.getD k []).length<=9223372036854775807)(hl:0<=left/\left<=1048576) :
  Calls SqP.prog 27 #[.slice a fs.length cap,.int .i64 left] w fun e w'=>∃ r:Int,e=.returned (.int .i64 r)/\(r<0\/(0<=r/\r<=left)/\fs.length<=1048576/\∀ k,k<fs.length->(fs.getD k []).length<=1048576)/\Below w.heap.size w w':=by
 obtain⟨N,hN⟩:∃ N,fs.length=N:=⟨_,rfl⟩
 by_cases hbig:left - fs.length<0
 ·rw[hN] at hbig hm ⊢
  clear h hr
  go_enter SqP.func27,Tryz.ntmps27
  go_wp2_with fail
  go_ret
  exact⟨_,rfl,.inl (by omega),Below.refl _ _⟩
 ·rw[hN] at hbig hm hr ⊢
  have HN:Hid (fs.length=N):=hN
  have hN20:N<=1048576:=by omega
  clear hN
  go_enter SqP.func27,Tryz.ntmps27
  go_wp2_with fail
  go_loopw [1,5] (fun v i wr=>∃ (k:Nat) (l:Int),k<=N/\i=.int .i64 k/\v=.int .i64 l/\(0<=l/\l<=left)/\(∀ j,j<k->(fs.getD j []).length<=1048576)/\Below w.heap.size w wr) (fun _ i _=>N - (intOf i).toNat)
  case atStart=>exact⟨0,_,Nat.zero_le _,rfl,rfl,by omega,fun j hj=>by omega,Below.refl _ _⟩
  case round =>
   rename World=>wo
   obtain⟨k,l,hk,rfl,rfl,hl2,hsm,hb⟩:=hrel
   by_cases hlt:k<N
   ·obtain⟨b,off,a',c',rfl,x0,_⟩:=(h.below hb).at (k:=k) (by have:=HN.out;omega)
    have hrk:=hr k hlt
    have HR:Hid (∀ j,j<k->(fs.getD j []).length<=1048576):=hsm
    obtain⟨m,em⟩:∃ m,(fs.getD k []).length=m:=⟨_,rfl⟩
    have HM:Hid ((fs.getD k []).length=m):=em
    rw[em] at x0 hrk
    clear h hr hsm em
    have hltI:(k:Int)<(N:Int):=by omega
    by_cases hneg:l - m<0
    ·go_wp2_with fail
     refine(zg3 a' m c' l _ hrk (by omega) (by omega)).mono ?_
     rintro e w1 ⟨rfl,rfl⟩
     go_wp2_with fail
     go_ret
     exact⟨_,rfl,.inl (by omega),hb⟩
    ·go_wp2_with fail
     refine(zg4 a' m c' l _ hrk (by omega) (by omega)).mono ?_
     rintro e w1 ⟨rfl,rfl⟩
     have hge:0<=l - (m:Int):=by omega
     go_wp2_with fail
     go_roundw
     case rel =>
      refine⟨k+1,l - m,by omega,by go_num,rfl,by omega,fun j hj=>?_,hb⟩
      rcases Nat.lt_succ_iff_lt_or_eq.1 hj with q|rfl
      ·exact HR.out j q
      ·have:=HM.out;omega
     case measure=>simp[intOf];omega
   ·have hnl:¬ (k:Int)<(N:Int):=by omega
    have HR:Hid (∀ j,j<k->(fs.getD j []).length<=1048576):=hsm
    clear hsm h hr
    go_wp2_with fail
    go_ret
    refine⟨_,rfl,.inr ?_,hb⟩
    first|exact⟨hl2,hN20,fun j hj=>HR.out j (by omega)⟩|exact⟨hl2,fun j hj=>HR.out j (by omega)⟩
theorem zni(a a2:Option Addr)(c c2:Nat)(fs:List (List Int))(w:World)(h:zde w a fs)(h2:zde w a2 fs)(hm:fs.length<=1048576)(hx:∀ k,k<fs.length->(fs.getD k []).length<=1048576) :
  Calls SqP.prog 36 #[.slice a fs.length c,.slice a2 fs.length c2] w fun e w'=>e=.returned (.bool true)/\Below w.heap.size w w':=by
 have bl:((fs.length:Int) != (fs.length:Int))=false:=by simp
 obtain⟨N,hN⟩:∃ N,fs.length=N:=⟨_,rfl⟩
 have HN:Hid (fs.length=N):=hN
 rw[hN] at bl hm ⊢
 clear hN
 go_enter SqP.func36,Tryz.ntmps36
 go_wp2_with fail
 go_loopw [5] (fun ii wr=>∃ i:Nat,i<=N/\ii=.int .i64 i/\Below w.heap.size w wr) (fun ii _=>N - (intOf ii).toNat)
 case atStart=>exact⟨0,Nat.zero_le _,rfl,Below.refl _ _⟩
 case round =>
  rename World=>wo
  obtain⟨i,hi,rfl,hb⟩:=hrel
  have hzo:=hb.size
  by_cases hlt:i<N
  ·obtain⟨b,off,g,p,rfl,x0,r0⟩:=(h.below hb).at (k:=i) (by have:=HN.out;omega)
   obtain⟨b2,off2,g2,p2,rfl,y0,r2⟩:=(h2.below hb).at (k:=i) (by have:=HN.out;omega)
   have hrl:=hx i (by have:=HN.out;omega)
   have hltI:(i:Int)<(N:Int):=by omega
   have wk:IntKind.i64.wrap ((i:Int)+1)=(i:Int)+1:=IntWalk.i64_in _ (by omega)
   obtain⟨xs,ex⟩:∃ xs,fs.getD i []=xs:=⟨_,rfl⟩
   rw[ex] at x0 y0 r0 r2 hrl
   have hC:=fun w hb=>zij g g2 p p2 xs w (r0.below hb) (r2.below hb) hrl
   obtain⟨m,em⟩:∃ m,xs.length=m:=⟨_,rfl⟩
   rw[em] at x0 y0 hC
   clear h h2 hx ex em r0 r2 hrl
   go_wp2
   go_region_held3 (fun w'=>w'.cell? ⟨b,off+i,none⟩=some (.slice g m p)/\w'.cell? ⟨b2,off2+i,none⟩=some (.slice g2 m p2))
    (first
     | exact⟨zab hb7 x0,zab hb7 y0⟩
     | exact⟨x0,y0⟩
     | go_keep)
    (first
     | (go_at_call 10;refine(hC _ (by first|exact Below.refl _ _|exact(Below.refl _ _).drew)).mono ?_;rintro e w7 ⟨rfl,hb7'⟩;have hb7:Below wo.heap.size wo w7:=(by first|exact hb7'|exact zbZ hb7'))
     | fail)
   all_goals
    have hb8:=zaj hb hzo hb7
    go_wp2_with fail
    go_roundw
    case rel=>exact⟨i+1,by omega,by go_num,by first|exact hb8|exact hb8.drew⟩
    case measure=>simp[intOf];omega
  ·have hnl:¬ (i:Int)<(N:Int):=by omega
   go_wp2_with fail
   go_ret
   exact⟨rfl,hb⟩
def zse:Value->Option Addr
 | .slice a _ _=>a
 | _=>none
theorem ziQ(h:zb7 w B (.slice (some ⟨g,0,none⟩) n n) xs):zcP w (some ⟨g,0,none⟩) xs:=by
 obtain⟨a,c,e,q⟩:=zrK h
 cases e
 exact q
theorem znK:(SqP.prog.info? 25).map (fun i=>(i.zero,i.size,i.bytes))=some (some (.slice none 0 0),1,24):=by kernel_rfl
theorem zjS(n:Nat)(hn:n<=1048576)(w:World):(Instr.makeSlice 26 (.int .i64 (n:Int)) (.int .i64 (n:Int))).run SqP.prog w=.ok (.slice (some ⟨w.heap.size,0,none⟩) n n) (w.alloc (.cells (madeCells #[.slice none 0 0] n) 25)):=by
 obtain⟨i0,hi,iz0,iz1,iz2⟩:=info_parts znK
 have:=run_make (P:=SqP.prog) w 26 25 i0 (.slice none 0 0) SqP.underlying26 hi iz0 .i64 .i64 (n:Int) (n:Int) (by omega) (by omega) (by rw[iz2];omega) (by omega)
 rw[iz1] at this
 simpa [Value.cells] using this
structure Cp2(w0 w:World)(B N k:Nat)(fs:List (List Int))(arr:Array Value):Prop where
 below:Below w0.heap.size w0 w
 top:w.heap[B]?=some (.cells arr 25)
 size:arr.size=N
 at':∀ j,j<k->∃ g,arr[j]?=some (.slice (some ⟨g,0,none⟩) (fs.getD j []).length (fs.getD j []).length)/\B<g/\zb7 w (B+1) (.slice (some ⟨g,0,none⟩) (fs.getD j []).length (fs.getD j []).length) (fs.getD j [])
 inj:∀ j j' g n n',j<k->j'<k->arr[j]?=some (.slice (some ⟨g,0,none⟩) n n)->arr[j']?=some (.slice (some ⟨g,0,none⟩) n' n')->j=j'
theorem zb2(h:zb7 w B (.slice (some ⟨g,0,none⟩) n n) xs)(hk:w'.heap[g]?=w.heap[g]?):zb7 w' B (.slice (some ⟨g,0,none⟩) n n) xs:=by
 obtain⟨h1,h2⟩:=h
 refine⟨h1,?_⟩
 rcases h2 with h2|⟨g',cap,cur,q1,q2,q3,q4⟩
 ·exact .inl h2
 ·have e:g=g':=by simp only[Value.slice.injEq,Option.some.injEq,Addr.mk.injEq] at q1;exact q1.1.1
  subst e
  exact .inr ⟨g,cap,cur,q1,q2,hk.trans q3,q4⟩
theorem ziN{B':Nat}{v:Value}(h:zb7 w B v xs)(hb:B'<=B):zb7 w B' v xs:=by
 obtain⟨h1,h2⟩:=h
 refine⟨h1,?_⟩
 rcases h2 with h2|⟨g',cap,cur,q1,q2,q3⟩
 ·exact .inl h2
 ·exact .inr ⟨g',cap,cur,q1,Nat.le_trans hb q2,q3⟩
theorem Cp2.next{k:Nat}(h:Cp2 w0 w B N k fs arr)(hB:w0.heap.size<=B)(hkN:k<N)(hn:(fs.getD k []).length=n)(hb:Below w.heap.size w w')(hO:zb7 w' w.heap.size (.slice (some ⟨g,0,none⟩) n n) (fs.getD k [])) :
  Cp2 w0 (w'.setCell ⟨B,k,none⟩ (.slice (some ⟨g,0,none⟩) n n)) B N (k+1) fs (arr.setIfInBounds k (.slice (some ⟨g,0,none⟩) n n)):=by
 subst hn
 have hBl:=(gei h.top).1
 have hg:w.heap.size<=g:=(World.ownsRow.lt hO g rfl).1
 have ht:w'.heap[B]?=some (.cells arr 25):=(hb.block B hBl).trans h.top
 refine⟨(zaj h.below h.below.size hb).setCell (p:=⟨B,k,none⟩) hB _,heap_setCell_same w' B k _ _ _ ht,by simpa using h.size,fun j hj=>?_,fun j j' g' n n' hj hj' e e'=>?_⟩
 rcases Nat.lt_succ_iff_lt_or_eq.1 hj with q|rfl
 ·obtain⟨g',e1,e2,e3⟩:=h.at' j q
  have hl:=(World.ownsRow.lt e3 g' rfl).2
  refine⟨g',by rw[Array.getElem?_setIfInBounds_ne (by omega)];exact e1,e2,zb2 e3 ?_⟩
  exact(Below.heap_setCell _ _ _ _ (by show g'≠B;omega)).trans (hb.block g' hl)
 ·refine⟨g,by rw[Array.getElem?_setIfInBounds_self_of_lt (by rw[h.size];exact hkN)],by omega,?_⟩
  have hO':=zb2 (w':=w'.setCell ⟨B,j,none⟩ (.slice (some ⟨g,0,none⟩) (fs.getD j []).length (fs.getD j []).length)) hO (Below.heap_setCell _ _ _ _ (by show g≠B;omega))
  exact ziN hO' (by omega)
 ·have old:∀ j g n,j<k->arr[j]?=some (.slice (some ⟨g,0,none⟩) n n)->g<w.heap.size:=fun j g n hj e=>by
   obtain⟨g1,e1,_,e3⟩:=h.at' j hj
   have hl:=(World.ownsRow.lt e3 g1 rfl).2
   rw[e] at e1
   cases e1
   exact hl
  have low:∀ j,j<k->(arr.setIfInBounds k (.slice (some ⟨g,0,none⟩) (fs.getD k []).length (fs.getD k []).length))[j]?=arr[j]?:=fun j hj=>Array.getElem?_setIfInBounds_ne (by omega)
  have top:(arr.setIfInBounds k (.slice (some ⟨g,0,none⟩) (fs.getD k []).length (fs.getD k []).length))[k]?=some (.slice (some ⟨g,0,none⟩) (fs.getD k []).length (fs.getD k []).length):=Array.getElem?_setIfInBounds_self_of_lt (by rw[h.size];exact hkN)
  rcases Nat.lt_succ_iff_lt_or_eq.1 hj with q|q
  ·rw[low j q] at e
   rcases Nat.lt_succ_iff_lt_or_eq.1 hj' with q'|q'
   ·rw[low j' q'] at e'
    exact h.inj j j' g' n n' q q' e e'
   ·subst q'
    rw[top] at e'
    cases e'
    have:=old j g _ q e
    omega
  ·subst q
   rw[top] at e
   cases e
   rcases Nat.lt_succ_iff_lt_or_eq.1 hj' with q'|q'
   ·rw[low j' q'] at e'
    have:=old j' g _ q' e'
    omega
   ·exact q'.symm
theorem Cp2.rows(h:Cp2 w0 w B N N fs arr)(hN:fs.length=N)(hs:w.heap.size<=w'.heap.size)(hk:∀ b,B<=b->b<w.heap.size->w'.heap[b]?=w.heap[b]?):∃ ad,zcB w' B w'.heap.size (some ⟨B,0,none⟩) fs.length ad (fun k=>(fs.getD k []).length) (fun k=>(fs.getD k []).length) (fun k j=>(fs.getD k []).getD j 0)/\∀ k x,k<fs.length->ad k=some x->B<x.block/\x.block<w.heap.size:=by
 have hB:=(gei h.top).1
 have key:∀ k,k<fs.length->∃ g,arr[k]?=some (.slice (some ⟨g,0,none⟩) (fs.getD k []).length (fs.getD k []).length)/\(B<g/\g<w.heap.size)/\RI w' (some ⟨g,0,none⟩) ((fs.getD k []).length * 1) (fun j=>(fs.getD k []).getD j 0):=fun k hkk=>by
  obtain⟨g,e1,e2,e3⟩:=h.at' k (by omega)
  have hl:=(World.ownsRow.lt e3 g rfl).2
  obtain⟨a,c,q1,q2,_⟩:=zed (zb2 e3 (hk g (by omega) hl))
  cases q1
  exact⟨g,e1,⟨e2,hl⟩,q2⟩
 refine⟨fun k=>(zse (arr.getD k .nilIface)),.inr ⟨B,rfl,⟨Nat.le_refl _,by omega⟩,fun k hkk=>?_,fun k hkk=>?_,fun k x hkk q=>?_,fun k k' x x' hkk hkk' q q' e=>?_,Nat.le_refl _⟩,fun k x hkk q=>?_⟩
 ·obtain⟨g,e1,_,_⟩:=key k hkk
  have e2:arr.getD k .nilIface=.slice (some ⟨g,0,none⟩) (fs.getD k []).length (fs.getD k []).length:=by rw[Array.getD_eq_getD_getElem?,e1];rfl
  rw[cell_of_row _ _ k _ _ _ ((hk B (Nat.le_refl _) hB).trans h.top),e1,e2]
  rfl
 ·obtain⟨g,e1,_,e3⟩:=key k hkk
  have e2:arr.getD k .nilIface=.slice (some ⟨g,0,none⟩) (fs.getD k []).length (fs.getD k []).length:=by rw[Array.getD_eq_getD_getElem?,e1];rfl
  rw[e2]
  exact e3
 ·obtain⟨g,e1,hg,_⟩:=key k hkk
  have e2:arr.getD k .nilIface=.slice (some ⟨g,0,none⟩) (fs.getD k []).length (fs.getD k []).length:=by rw[Array.getD_eq_getD_getElem?,e1];rfl
  rw[e2] at q
  cases q
  exact⟨⟨by show B<=g;omega,by show g<w'.heap.size;omega⟩,by show ¬ g=B;omega⟩
 ·obtain⟨g,e1,hg,_⟩:=key k hkk
  obtain⟨g',e1',hg',_⟩:=key k' hkk'
  have e2:arr.getD k .nilIface=.slice (some ⟨g,0,none⟩) (fs.getD k []).length (fs.getD k []).length:=by rw[Array.getD_eq_getD_getElem?,e1];rfl
  have e2':arr.getD k' .nilIface=.slice (some ⟨g',0,none⟩) (fs.getD k' []).length (fs.getD k' []).length:=by rw[Array.getD_eq_getD_getElem?,e1'];rfl
  rw[e2] at q
  rw[e2'] at q'
  cases q
  cases q'
  replace e:g=g':=e
  subst e
  exact h.inj k k' g _ _ (by omega) (by omega) e1 e1'
 ·obtain⟨g,e1,hg,_⟩:=key k hkk
  have e2:arr.getD k .nilIface=.slice (some ⟨g,0,none⟩) (fs.getD k []).length (fs.getD k []).length:=by rw[Array.getD_eq_getD_getElem?,e1];rfl
  replace q:zse (arr.getD k .nilIface)=some x:=q
  rw[e2] at q
  cases q
  exact hg
theorem Cp2.r2(h:Cp2 w0 w B N N fs arr)(hN:fs.length=N)(hs:w.heap.size<=w'.heap.size)(hk:∀ b,B<=b->b<w.heap.size->w'.heap[b]?=w.heap[b]?):zde w' (some ⟨B,0,none⟩) fs:=by
 have hB:=(gei h.top).1
 refine .inr ⟨B,0,rfl,by omega,fun k hkk=>?_⟩
 obtain⟨g,e1,e2,e3⟩:=h.at' k (by omega)
 refine⟨some ⟨g,0,none⟩,(fs.getD k []).length,?_,ziQ (zb2 e3 (hk g (by omega) (World.ownsRow.lt e3 g rfl).2))⟩
 rw[Nat.zero_add,cell_of_row _ _ _ _ _ _ ((hk B (Nat.le_refl _) hB).trans h.top),e1]
theorem zks(a:Option Addr)(cap:Nat)(fs:List (List Int))(w:World)(h:zde w a fs)(hm:fs.length<=1048576)(hx:∀ k,k<fs.length->(fs.getD k []).length<=1048576) :
  Calls SqP.prog 32 #[.slice a fs.length cap] w fun e w'=>∃ arr,e=.returned (.slice (some ⟨w.heap.size,0,none⟩) fs.length fs.length)/\Cp2 w w' w.heap.size fs.length fs.length fs arr:=by
 obtain⟨N,hN⟩:∃ N,fs.length=N:=⟨_,rfl⟩
 have HN:Hid (fs.length=N):=hN
 rw[hN] at hm ⊢
 clear hN
 have hmk:=zjS N hm w
 have H0:Cp2 w (w.alloc (.cells (madeCells #[.slice none 0 0] N) 25)) w.heap.size N 0 fs (madeCells #[.slice none 0 0] N):=⟨bel,by show (w.heap.push _)[w.heap.size]?=_;simp,by simp[madeCells],fun j hj=>by omega,fun j _ _ _ _ hj=>by omega⟩
 go_enter SqP.func32,Tryz.ntmps32
 go_wp2_with fail
 obtain⟨wz,hwz⟩:∃ wz,wz=w.alloc (.cells (madeCells #[.slice none 0 0] N) 25):=⟨_,rfl⟩
 rw[<- hwz] at H0 ⊢
 clear hmk hwz
 go_loopw [4] (fun i wr=>∃ (k:Nat) (arr:Array Value),k<=N/\i=.int .i64 k/\Cp2 w wr w.heap.size N k fs arr) (fun i _=>N - (intOf i).toNat)
 case atStart=>exact⟨0,_,Nat.zero_le _,rfl,H0⟩
 case round =>
  rename World=>wo
  obtain⟨k,arr,hk,rfl,hI⟩:=hrel
  have hb:=hI.below
  have hzo:=hb.size
  by_cases hlt:k<N
  ·obtain⟨b,off,a',c',rfl,x0,hR⟩:=(h.below hb).at (k:=k) (by have:=HN.out;omega)
   have hrl:=hx k (by have:=HN.out;omega)
   have hltI:(k:Int)<(N:Int):=by omega
   have HI:Hid (Cp2 w wo w.heap.size N k fs arr):=hI
   have hC:=zg5 a' c' (fs.getD k []) wo hR hrl
   obtain⟨xs,ex⟩:∃ xs,fs.getD k []=xs:=⟨_,rfl⟩
   have HE:Hid (fs.getD k []=xs):=ex
   rw[ex] at x0 hC
   obtain⟨m,em⟩:∃ m,xs.length=m:=⟨_,rfl⟩
   have HM:Hid (xs.length=m):=em
   rw[em] at x0 hC
   clear h hx ex em hR hrl hI
   go_wp2_with fail
   refine hC.mono ?_
   rintro e w1 ⟨g,rfl,hO,hb1⟩
   have hnx:=HI.out.next (g:=g) (n:=m) (Nat.le_refl _) hlt (by rw[HE.out];exact HM.out) hb1 (by rw[HE.out];exact hO)
   have htop:w1.heap[w.heap.size]?=some (.cells arr 25):=(hb1.block _ (gei HI.out.top).1).trans HI.out.top
   have cl:w1.cell? ⟨w.heap.size,k,none⟩=some (arr.getD k .nilFunc):=by rw[cell_of_row _ _ _ _ _ _ htop];simp[show k<arr.size by rw[HI.out.size];exact hlt]
   have fl:w1.frozen? ⟨w.heap.size,k,none⟩=false:=frozen_of_row _ _ _ _ _ htop
   clear htop hO hb1
   go_wp2_with fail
   go_roundw
   case rel=>exact⟨k+1,_,by omega,by go_num,hnx⟩
   case measure=>simp[intOf];omega
  ·have hnl:¬ (k:Int)<(N:Int):=by omega
   have HI:Hid (Cp2 w wo w.heap.size N k fs arr):=hI
   clear hI h hx
   go_wp2_with fail
   go_ret
   obtain rfl:k=N:=by omega
   exact⟨rfl,_,HI.out⟩
