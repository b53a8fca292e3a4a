/- Part. -/
import Derived.Test.YthfhphdofgkjhaaGreatLAq
import Derived.Test.YthfhphdofgkjhaaGreatLAr
set_option maxHeartbeats 400000
set_option linter.unusedVariables false
namespace Go.Proofs.YthfhphdofgkjhaaGreat
variable{d e k wd x:Int}{s t:Int × Int}{go go':Int->Int->Nat->Prop}{cs:List (Int × Int)}{H W:Nat}
namespace Sp
variable{aLt:Nat->Func->Func}
open Go.RowKit
abbrev nI(n:Nat):Int:=(n:Int)
theorem zlG:∀ W:Fin 5,∀ H:Fin 5,∀ k:Fin 20,k.val<2 * (W.val+1+(H.val+1)) ->
  (0<=(zdi (nI (W.val+1)) (nI (H.val+1)) (nI k.val)).1/\(zdi (nI (W.val+1)) (nI (H.val+1)) (nI k.val)).1<nI (W.val+1) * nI (H.val+1)) /\
  inG ((zdi (nI (W.val+1)) (nI (H.val+1)) (nI k.val)).1 / nI (W.val+1)+zbi (((zdi (nI (W.val+1)) (nI (H.val+1)) (nI k.val)).2+2) % 4)) ((zdi (nI (W.val+1)) (nI (H.val+1)) (nI k.val)).1 % nI (W.val+1)+zbw (((zdi (nI (W.val+1)) (nI (H.val+1)) (nI k.val)).2+2) % 4)) (nI (W.val+1)) (nI (H.val+1))=false /\
  ofN (nI (W.val+1)) (nI (H.val+1)) (zdi (nI (W.val+1)) (nI (H.val+1)) (nI k.val)).1 (((zdi (nI (W.val+1)) (nI (H.val+1)) (nI k.val)).2+2) % 4) (2 * (W.val+1+(H.val+1)))=nI k.val:=by decide +kernel
theorem zlc:∀ W:Fin 5,∀ H:Fin 5,∀ x:Fin 25,∀ d:Fin 4,x.val<(W.val+1) * (H.val+1) ->
  if inG (nI x.val / nI (W.val+1)+zbi (nI d.val)) (nI x.val % nI (W.val+1)+zbw (nI d.val)) (nI (W.val+1)) (nI (H.val+1))=true then ofN (nI (W.val+1)) (nI (H.val+1)) (nI x.val) (nI d.val) (2 * (W.val+1+(H.val+1)))=-1
  else (0<=ofN (nI (W.val+1)) (nI (H.val+1)) (nI x.val) (nI d.val) (2 * (W.val+1+(H.val+1)))/\ofN (nI (W.val+1)) (nI (H.val+1)) (nI x.val) (nI d.val) (2 * (W.val+1+(H.val+1)))<2 * (nI (W.val+1)+nI (H.val+1))) /\
   zdi (nI (W.val+1)) (nI (H.val+1)) (ofN (nI (W.val+1)) (nI (H.val+1)) (nI x.val) (nI d.val) (2 * (W.val+1+(H.val+1))))=(nI x.val,(nI d.val+2) % 4):=by decide +kernel
theorem zgH(W H k:Nat)(hW:1<=W/\W<=5)(hH:1<=H/\H<=5)(hk:k<2 * (W+H))(x d:Int)(hs:zdi W H k=(x,d)) :
  (0<=x/\x<(W:Int) * (H:Int))/\(0<=d/\d<=3)/\inG (x / (W:Int)+zbi ((d+2) % 4)) (x % (W:Int)+zbw ((d+2) % 4)) W H=false/\ofN W H x ((d+2) % 4) (2 * (W+H))=(k:Int):=by
 have h:=zlG ⟨W - 1,by omega⟩ ⟨H - 1,by omega⟩ ⟨k,by omega⟩
 simp only[show W - 1+1=W by omega,show H - 1+1=H by omega,nI] at h
 have h2:=h hk
 rw[hs] at h2
 exact⟨h2.1,zkB _ _ _ _ _ hs,h2.2.1,h2.2.2⟩
theorem znw(W H x d:Nat)(hW:1<=W/\W<=5)(hH:1<=H/\H<=5)(hx:x<W * H)(hd:d<4) :
  (inG ((x:Int) / (W:Int)+zbi (d:Int)) ((x:Int) % (W:Int)+zbw (d:Int)) W H=true/\ofN W H x d (2 * (W+H))=-1) \/
  (inG ((x:Int) / (W:Int)+zbi (d:Int)) ((x:Int) % (W:Int)+zbw (d:Int)) W H=false/\∃ k:Nat,k<2 * (W+H)/\ofN W H x d (2 * (W+H))=(k:Int)/\zdi W H k=((x:Int),((d:Int)+2) % 4)):=by
 have hx2:x<25:=nll hx (Nat.le_trans (Nat.mul_le_mul hW.2 hH.2) (by omega))
 have h:=zlc ⟨W - 1,by omega⟩ ⟨H - 1,by omega⟩ ⟨x,hx2⟩ ⟨d,hd⟩
 simp only[show W - 1+1=W by omega,show H - 1+1=H by omega,nI] at h
 have h2:=h hx
 by_cases q:inG ((x:Int) / (W:Int)+zbi (d:Int)) ((x:Int) % (W:Int)+zbw (d:Int)) W H=true
 ·rw[if_pos q] at h2
  exact Or.inl ⟨q,h2⟩
 ·rw[if_neg q] at h2
  obtain⟨⟨k0,k1⟩,k2⟩:=h2
  obtain⟨k,hk⟩:=Int.eq_ofNat_of_zero_le k0
  rw[hk] at k1 k2
  exact Or.inr ⟨by simpa using q,k,by omega,hk,k2⟩
structure Siz(wd:Int)(cs:List (Int × Int))(W H:Nat):Prop where
 ok:okG wd cs=true
 ew:wd=(W:Int)
 hW:1<=W/\W<=5
 hH:1<=H/\H<=5
 el:cs.length=W * H
 hI:(cs.length:Int) / wd=(H:Int)
 em:zcl wd cs=2 * ((W:Int)+(H:Int))
theorem zeE(h:okG wd cs=true):∃ W H,Siz wd cs W H:=by
 obtain⟨W,H,rfl,h1,h2,h3,h4,el,hH,hHI⟩:=zfG wd cs h
 exact⟨W,H,h,rfl,⟨h1,h2⟩,⟨h3,h4⟩,el,hHI,zcz h hHI⟩
theorem zdQ(S:Siz wd cs W H)(k:Nat)(hk:k<2 * (W+H)):zb1 wd cs (k:Int)=((zdi W H k).1,(zdi W H k).2,true):=by
 unfold zb1
 rw[if_pos ⟨S.ok,by omega,by rw[S.em];omega⟩,S.hI,S.ew]
theorem ze0(S:Siz wd cs W H)(x d:Int)(hx:0<=x/\x<(W:Int) * (H:Int))(hd:0<=d/\d<=3):zcA wd cs x d=ofN W H x d (2 * (W+H)):=by
 unfold zcA
 have e1:(cs.length:Int)=(W:Int) * (H:Int):=by rw[S.el];simp
 rw[if_pos ⟨S.ok,by rw[e1];exact hx,hd⟩,S.em,S.hI,S.ew,show (2 * ((W:Int)+(H:Int))).toNat=2 * (W+H) by omega]
theorem zjA(S:Siz wd cs W H)(x d:Int)(hx:0<=x/\x<(W:Int) * (H:Int))(hd:0<=d/\d<=3) :
  zbK wd cs x d=if inG (x / (W:Int)+zbi d) (x % (W:Int)+zbw d) W H=true then ((x / (W:Int)+zbi d) * (W:Int)+(x % (W:Int)+zbw d),d,true) else (0,0,false):=by
 unfold zbK
 have e1:(cs.length:Int)=(W:Int) * (H:Int):=by rw[S.el];simp
 rw[S.hI,S.ew]
 by_cases g:inG (x / (W:Int)+zbi d) (x % (W:Int)+zbw d) W H=true
 ·rw[if_pos ⟨by rw[<- S.ew];exact S.ok,by rw[e1];exact hx,hd,g⟩,if_pos g]
 ·rw[if_neg (fun q=>g q.2.2.2),if_neg g]
theorem zma(h:zb1 wd cs k=(x,d,true)) :
  (0<=d/\d<=3)/\zbK wd cs x ((d+2) % 4)=(0,0,false)/\zcA wd cs x ((d+2) % 4)=k/\k<zcl wd cs:=by
 unfold zb1 at h
 split at h
 ·next c =>
  obtain⟨W,H,S⟩:=zeE c.1
  have hk:=c.2
  rw[S.em] at hk
  obtain⟨K,rfl⟩:=Int.eq_ofNat_of_zero_le hk.1
  have hs:zdi W H K=(x,d):=by
   rw[S.hI,S.ew] at h
   simp only[Prod.mk.injEq] at h
   rw[<- h.1,<- h.2.1]
  obtain⟨hx,hd,hg,ho⟩:=zgH W H K S.hW S.hH (by omega) x d hs
  refine⟨hd,?_,?_,c.2.2⟩
  ·rw[zjA S x _ hx (by omega),if_neg (by simp[hg])]
  ·rw[ze0 S x _ hx (by omega)];exact ho
 ·simp at h
theorem zo7(hk:okG wd cs=true)(hx:0<=x/\x<(cs.length:Int))(hd:0<=d/\d<=3) :
  (∃ x2 d2,zbK wd cs x d=(x2,d2,true)/\zcA wd cs x d=-1)\/(zbK wd cs x d=(0,0,false)/\zb1 wd cs (zcA wd cs x d)=(x,(d+2) % 4,true)):=by
 obtain⟨W,H,S⟩:=zeE hk
 have e1:(cs.length:Int)=(W:Int) * (H:Int):=by rw[S.el];simp
 rw[e1] at hx
 obtain⟨X,rfl⟩:=Int.eq_ofNat_of_zero_le hx.1
 obtain⟨D,rfl⟩:=Int.eq_ofNat_of_zero_le hd.1
 have hX:X<W * H:=by have:=hx.2;exact_mod_cast this
 rcases znw W H X D S.hW S.hH hX (by omega) with ⟨g,o⟩|⟨g,k,hk,o,s⟩
 ·left
  exact⟨_,_,by rw[zjA S _ _ hx hd,if_pos g],by rw[ze0 S _ _ hx hd];exact o⟩
 ·right
  refine⟨by rw[zjA S _ _ hx hd,if_neg (by simp[g])],?_⟩
  rw[ze0 S _ _ hx hd,o,zdQ S k hk,s]
def zcG(k:Int):Nat:=if k=2\/k=4 then 130 else if k=3\/k=5 then 131 else 129
def ziz(d:Int):Int:=if d=0\/d=2 then d+1 else d - 1
def zaO(k d:Int):Int:=if d<0\/3<d then -1 else if k=2\/k=4 then ziz d else if k=3\/k=5 then 3 - d else d
theorem zjV(k:Int)(h:k<0\/7<k)(w:World) :
  Calls (SqG.prog aLt) 119 #[.int .i64 k] w fun e w'=>e=.returned (.func (.func (zcG k)) #[] #[])/\Below w.heap.size w w':=by
 have ht:zcG k=129:=by unfold zcG;rw[if_neg (by omega),if_neg (by omega)]
 rw[ht]
 rcases h with h|h
 all_goals
  go_enter SqG.func119,Tryz.ntmps119
  go_wp2
  go_ret
  exact⟨rfl,bel⟩
theorem zpH(w:World) :
  Calls (SqG.prog aLt) 119 #[.int .i64 0] w fun e w'=>e=.returned (.func (.func (zcG 0)) #[] #[])/\Below w.heap.size w w':=by
 go_enter SqG.func119,Tryz.ntmps119
 go_wp2
 go_ret
 exact⟨rfl,bel⟩
theorem zpI(w:World) :
  Calls (SqG.prog aLt) 119 #[.int .i64 1] w fun e w'=>e=.returned (.func (.func (zcG 1)) #[] #[])/\Below w.heap.size w w':=by
 go_enter SqG.func119,Tryz.ntmps119
 go_wp2
 go_ret
 exact⟨rfl,bel⟩
theorem zpJ(w:World) :
  Calls (SqG.prog aLt) 119 #[.int .i64 2] w fun e w'=>e=.returned (.func (.func (zcG 2)) #[] #[])/\Below w.heap.size w w':=by
 go_enter SqG.func119,Tryz.ntmps119
 go_wp2
 go_ret
 exact⟨rfl,bel⟩
theorem zpK(w:World) :
  Calls (SqG.prog aLt) 119 #[.int .i64 3] w fun e w'=>e=.returned (.func (.func (zcG 3)) #[] #[])/\Below w.heap.size w w':=by
 go_enter SqG.func119,Tryz.ntmps119
 go_wp2
 go_ret
 exact⟨rfl,bel⟩
theorem zpL(w:World) :
  Calls (SqG.prog aLt) 119 #[.int .i64 4] w fun e w'=>e=.returned (.func (.func (zcG 4)) #[] #[])/\Below w.heap.size w w':=by
 go_enter SqG.func119,Tryz.ntmps119
 go_wp2
 go_ret
 exact⟨rfl,bel⟩
theorem zpM(w:World) :
  Calls (SqG.prog aLt) 119 #[.int .i64 5] w fun e w'=>e=.returned (.func (.func (zcG 5)) #[] #[])/\Below w.heap.size w w':=by
 go_enter SqG.func119,Tryz.ntmps119
 go_wp2
 go_ret
 exact⟨rfl,bel⟩
theorem zpN(w:World) :
  Calls (SqG.prog aLt) 119 #[.int .i64 6] w fun e w'=>e=.returned (.func (.func (zcG 6)) #[] #[])/\Below w.heap.size w w':=by
 go_enter SqG.func119,Tryz.ntmps119
 go_wp2
 go_ret
 exact⟨rfl,bel⟩
theorem zpO(w:World) :
  Calls (SqG.prog aLt) 119 #[.int .i64 7] w fun e w'=>e=.returned (.func (.func (zcG 7)) #[] #[])/\Below w.heap.size w w':=by
 go_enter SqG.func119,Tryz.ntmps119
 go_wp2
 go_ret
 exact⟨rfl,bel⟩
theorem zlZ(k:Int)(w:World) :
  Calls (SqG.prog aLt) 119 #[.int .i64 k] w fun e w'=>e=.returned (.func (.func (zcG k)) #[] #[])/\Below w.heap.size w w':=by
 by_cases h:k<0\/7<k
 ·exact zjV k h w
 ·rcases (show k=0\/k=1\/k=2\/k=3\/k=4\/k=5\/k=6\/k=7 by omega) with rfl|rfl|rfl|rfl|rfl|rfl|rfl|rfl
  ·exact zpH w
  ·exact zpI w
  ·exact zpJ w
  ·exact zpK w
  ·exact zpL w
  ·exact zpM w
  ·exact zpN w
  ·exact zpO w
theorem zf8(k:Int)(n:Nat)(h:zcG k=n)(w:World) :
  Calls (SqG.prog aLt) 119 #[.int .i64 k] w fun e w'=>e=.returned (.func (.func n) #[] #[])/\Below w.heap.size w w':=by
 rw[<- h]
 exact zlZ k w
theorem ziK(k d:Int)(h:d<0\/3<d):zaO k d=-1:=by unfold zaO;rw[if_pos h]
theorem zdf(k d:Int)(h0:0<=d)(h3:d<=3):zaO k d=if k=2\/k=4 then ziz d else if k=3\/k=5 then 3 - d else d:=by unfold zaO;rw[if_neg (by omega)]
theorem ziH(d:Int)(w:World) :
  Calls (SqG.prog aLt) 129 #[.int .i64 d] w fun e w'=>e=.returned (.int .i64 d)/\w'=w:=by
 go_enter SqG.func129,Tryz.ntmps129
 go_wp2
 go_ret
 exact⟨rfl,rfl⟩
theorem zi0(d:Int)(h0:0<=d)(h3:d<=3)(w:World) :
  Calls (SqG.prog aLt) 130 #[.int .i64 d] w fun e w'=>e=.returned (.int .i64 (ziz d))/\w'=w:=by
 rcases (show d=0\/d=1\/d=2\/d=3 by omega) with rfl|rfl|rfl|rfl
 all_goals
  go_enter SqG.func130,Tryz.ntmps130
  go_wp2
  go_ret
  exact⟨rfl,rfl⟩
theorem zkX(d:Int)(h0:0<=d)(h3:d<=3)(w:World) :
  Calls (SqG.prog aLt) 131 #[.int .i64 d] w fun e w'=>e=.returned (.int .i64 (3 - d))/\w'=w:=by
 rcases (show d=0\/d=1\/d=2\/d=3 by omega) with rfl|rfl|rfl|rfl
 all_goals
  go_enter SqG.func131,Tryz.ntmps131
  go_wp2
  go_ret
  exact⟨rfl,rfl⟩
theorem zfA(k d:Int)(w:World) :
  Calls (SqG.prog aLt) 104 #[.int .i64 k,.int .i64 d] w fun e w'=>e=.returned (.int .i64 (zaO k d))/\Below w.heap.size w w':=by
 by_cases hd:d<0\/3<d
 ·rw[ziK k d hd]
  have hi:inB d 0 3=false:=by simp[inB];omega
  clear hd
  go_enter SqG.func104,Tryz.ntmps104
  go_wp2_with fail
  refine(zbr _ _).mono ?_
  rintro e w' ⟨rfl,rfl⟩
  go_wp2
  go_ret
  exact⟨rfl,bel⟩
 ·have h0:0<=d:=by omega
  have h3:d<=3:=by omega
  have hi:inB d 0 3=true:=by simp[inB,h0,h3]
  rw[zdf k d h0 h3]
  by_cases h24:k=2\/k=4
  ·have ht:zcG k=130:=by unfold zcG;rw[if_pos h24]
   rw[if_pos h24]
   clear h24 hd
   go_enter SqG.func104,Tryz.ntmps104
   go_wp2_with fail
   refine(zbr _ _).mono ?_
   rintro e w' ⟨rfl,rfl⟩
   go_wp2_with fail
   refine(zf8 k _ ht _).mono ?_
   rintro e w1 ⟨rfl,hb⟩
   go_wp2_with fail
   skip
   refine(zi0 d h0 h3 _).mono ?_
   rintro e w' ⟨rfl,rfl⟩
   go_wp2_with fail
   go_ret
   exact⟨rfl,by first|exact hb|exact hb.drew⟩
  ·rw[if_neg h24]
   by_cases h35:k=3\/k=5
   ·have ht:zcG k=131:=by unfold zcG;rw[if_neg h24,if_pos h35]
    rw[if_pos h35]
    clear h24 h35 hd
    go_enter SqG.func104,Tryz.ntmps104
    go_wp2_with fail
    refine(zbr _ _).mono ?_
    rintro e w' ⟨rfl,rfl⟩
    go_wp2_with fail
    refine(zf8 k _ ht _).mono ?_
    rintro e w1 ⟨rfl,hb⟩
    go_wp2_with fail
    skip
    refine(zkX d h0 h3 _).mono ?_
    rintro e w' ⟨rfl,rfl⟩
    go_wp2_with fail
    go_ret
    exact⟨rfl,by first|exact hb|exact hb.drew⟩
   ·have ht:zcG k=129:=by unfold zcG;rw[if_neg h24,if_neg h35]
    rw[if_neg h35]
    clear h24 h35 hd
    go_enter SqG.func104,Tryz.ntmps104
    go_wp2_with fail
    refine(zbr _ _).mono ?_
    rintro e w' ⟨rfl,rfl⟩
    go_wp2_with fail
    refine(zf8 k _ ht _).mono ?_
    rintro e w1 ⟨rfl,hb⟩
    go_wp2_with fail
    skip
    refine(ziH d _).mono ?_
    rintro e w' ⟨rfl,rfl⟩
    go_wp2_with fail
    go_ret
    exact⟨rfl,by first|exact hb|exact hb.drew⟩
theorem zc0(k d:Int)(w:World) :
  Calls (SqG.prog aLt) 110 #[.int .i64 k,.int .i64 d] w fun e w'=>e=.returned (.int .i64 (zaO k d))/\w'=w:=by
 by_cases hd:d<0\/3<d
 ·rw[ziK k d hd]
  have hi:inB d 0 3=false:=by simp[inB];omega
  clear hd
  go_enter SqG.func110,Tryz.ntmps110
  go_wp2_with (go_at_call 57;refine(zaI _ _ _ _).mono ?_;rintro e w' ⟨rfl,rfl⟩)
  go_ret
  exact⟨rfl,rfl⟩
 ·have h0:0<=d:=by omega
  have h3:d<=3:=by omega
  have hi:inB d 0 3=true:=by simp[inB,h0,h3]
  rw[zdf k d h0 h3]
  by_cases h24:k=2\/k=4
  ·rw[if_pos h24]
   clear hd hi
   rcases h24 with rfl|rfl
   all_goals
    rcases (show d=0\/d=1\/d=2\/d=3 by omega) with rfl|rfl|rfl|rfl
    all_goals
     clear h0 h3
     go_enter SqG.func110,Tryz.ntmps110
     go_wp2_with (first|(go_at_call 57;go_enter SqG.func57,Tryz.ntmps57)|fail)
     go_ret
     exact⟨rfl,rfl⟩
  ·rw[if_neg h24]
   by_cases h35:k=3\/k=5
   ·rw[if_pos h35]
    clear hd hi h24
    rcases h35 with rfl|rfl
    all_goals
     rcases (show d=0\/d=1\/d=2\/d=3 by omega) with rfl|rfl|rfl|rfl
     all_goals
      clear h0 h3
      go_enter SqG.func110,Tryz.ntmps110
      go_wp2_with (first|(go_at_call 57;go_enter SqG.func57,Tryz.ntmps57)|fail)
      go_ret
      exact⟨rfl,rfl⟩
   ·rw[if_neg h35]
    have n2:(k == 2)=false:=by simp;omega
    have n3:(k == 3)=false:=by simp;omega
    have n4:(k == 4)=false:=by simp;omega
    have n5:(k == 5)=false:=by simp;omega
    clear hd h24 h35
    go_enter SqG.func110,Tryz.ntmps110
    go_wp2_with (go_at_call 57;refine(zaI _ _ _ _).mono ?_;rintro e w' ⟨rfl,rfl⟩)
    go_ret
    exact⟨rfl,rfl⟩
def kd(cs:List (Int × Int))(x:Int):Int:=(cs.getD x.toNat (0,0)).1
abbrev Tr:=List (Int × Int × Int) × List (Int × Int × Int)
def za4(a b:Tr):Tr:=(a.1++b.1,a.2++b.2)
def zc8(kind wh:Int)(wt:Nat):Tr:=([],if wt=0 then [] else [(kind,wh,(wt:Int))])
def lvT(wd:Int)(cs:List (Int × Int))(go:Int->Int->Nat->Tr)(x e:Int)(h:Nat):Tr :=
 if h=0 then ([],[]) else if (zbK wd cs x e).2.2=true then go (zbK wd cs x e).1 e h else zc8 0 (zcA wd cs x e) h
def zbf(wd:Int)(cs:List (Int × Int))(go:Int->Int->Nat->Tr)(x d:Int)(wt:Nat):Tr :=
 if kd cs x=1 then zc8 1 x wt else if kd cs x=7 then zc8 2 x wt
 else if kd cs x=6 then za4 (zc8 3 x (wt - wt / 2)) (lvT wd cs go x d (wt / 2))
 else if kd cs x=4\/kd cs x=5 then za4 (zc8 3 x (wt - 2 * (wt / 2))) (za4 (lvT wd cs go x d (wt / 2)) (lvT wd cs go x (zaO (kd cs x) d) (wt / 2)))
 else lvT wd cs go x (zaO (kd cs x) d) wt
def zaJ(wd:Int)(cs:List (Int × Int)):Nat->Int->Int->Nat->Tr
 | 0=>fun _ _ _=>([],[])
 | f+1=>fun x d wt=>if wt=0 then ([],[]) else za4 ([(x,d,(wt:Int))],[]) (zbf wd cs (zaJ wd cs f) x d wt)
def zfJ(k:Int):Prop:=k≠1/\k≠7/\k≠6/\k≠4/\k≠5
def lvE(wd:Int)(cs:List (Int × Int))(go:Int->Int->Nat->Prop)(x e:Int)(h:Nat):Prop:=h=0\/(zbK wd cs x e).2.2=false\/go (zbK wd cs x e).1 e h
def zaz(wd:Int)(cs:List (Int × Int)):Nat->Int->Int->Nat->Prop
 | 0=>fun _ _ wt=>wt=0
 | f+1=>fun x d wt=>wt=0\/(kd cs x=1\/kd cs x=7)\/(kd cs x=6/\lvE wd cs (zaz wd cs f) x d (wt / 2)) \/
   ((kd cs x=4\/kd cs x=5)/\lvE wd cs (zaz wd cs f) x d (wt / 2)/\lvE wd cs (zaz wd cs f) x (zaO (kd cs x) d) (wt / 2))\/(zfJ (kd cs x)/\lvE wd cs (zaz wd cs f) x (zaO (kd cs x) d) wt)
theorem zdS(hm:∀ x d wt,go x d wt->go' x d wt){h:Nat}(q:lvE wd cs go x e h):lvE wd cs go' x e h:=by
 rcases q with q|q|q
 ·exact Or.inl q
 ·exact Or.inr (Or.inl q)
 ·exact Or.inr (Or.inr (hm _ _ _ q))
theorem zfo(wd:Int)(cs:List (Int × Int)):∀ f x d wt,zaz wd cs f x d wt->zaz wd cs (f+1) x d wt:=by
 intro f
 induction f with
 | zero=>intro x d wt h;exact Or.inl h
 | succ f ih =>
  intro x d wt h
  rcases h with h|h|⟨h1,h2⟩|⟨h1,h2,h3⟩|⟨h1,h2⟩
  ·exact Or.inl h
  ·exact Or.inr (Or.inl h)
  ·exact Or.inr (Or.inr (Or.inl ⟨h1,zdS ih h2⟩))
  ·exact Or.inr (Or.inr (Or.inr (Or.inl ⟨h1,zdS ih h2,zdS ih h3⟩)))
  ·exact Or.inr (Or.inr (Or.inr (Or.inr ⟨h1,zdS ih h2⟩)))
theorem zi7(wd:Int)(cs:List (Int × Int))(f m:Nat)(x d:Int)(wt:Nat)(h:zaz wd cs f x d wt):zaz wd cs (f+m) x d wt:=by
 induction m with
 | zero=>exact h
 | succ m ih=>exact zfo wd cs (f+m) x d wt ih
def stops(wd:Int)(cs:List (Int × Int)):Nat->Int->Int->Prop
 | 0=>fun _ _=>False
 | j+1=>fun x d=>¬ zfJ (kd cs x)\/(zbK wd cs x (zaO (kd cs x) d)).2.2=false\/stops wd cs j (zbK wd cs x (zaO (kd cs x) d)).1 (zaO (kd cs x) d)
def fresh(wd:Int)(cs:List (Int × Int))(x d:Int):Prop:=(zbK wd cs x ((d+2) % 4)).2.2=false\/¬ zfJ (kd cs (zbK wd cs x ((d+2) % 4)).1)
theorem zqJ:∀(n:Nat) (f:Nat->Nat),(∀ i,i<n+1->f i<n)->∃ i j,i<j/\j<n+1/\f i=f j:=by
 intro n
 induction n with
 | zero=>intro f h;have:=h 0 (by omega);omega
 | succ n ih =>
  intro f h
  by_cases c:∃ i,i<n+1/\f i=f (n+1)
  ·obtain⟨i,hi,e⟩:=c
   exact⟨i,n+1,hi,by omega,e⟩
  ·have c':∀ i,i<n+1->f i≠f (n+1):=fun i hi e=>c ⟨i,hi,e⟩
   obtain⟨i,j,hij,hj,e⟩:=ih (fun i=>if f i=n then f (n+1) else f i) (by
    intro i hi
    have h1:=h i (by omega)
    have h2:=h (n+1) (by omega)
    have h3:=c' i hi
    show (if f i=n then f (n+1) else f i)<n
    split <;> omega)
   refine⟨i,j,hij,by omega,?_⟩
   have hi1:=c' i (by omega)
   have hj1:=c' j hj
   split at e <;> split at e <;> omega
theorem zdw(hd:0<=d/\d<=3):0<=zaO k d/\zaO k d<=3:=by
 rw[zdf k d hd.1 hd.2]
 unfold ziz
 split <;> (try split) <;> omega
theorem znX(hd:0<=d/\d<=3)(he:0<=e/\e<=3)(h:zaO k d=zaO k e):d=e:=by
 rw[zdf k d hd.1 hd.2,zdf k e he.1 he.2] at h
 unfold ziz at h
 split at h
 ·split at h <;> split at h <;> omega
 ·split at h <;> omega
def okS(cs:List (Int × Int))(s:Int × Int):Prop:=(0<=s.1/\s.1<(cs.length:Int))/\(0<=s.2/\s.2<=3)
def nxS(wd:Int)(cs:List (Int × Int))(s:Int × Int):Int × Int:=((zbK wd cs s.1 (zaO (kd cs s.1) s.2)).1,zaO (kd cs s.1) s.2)
def zl6(wd:Int)(cs:List (Int × Int))(s:Int × Int):Prop:=zfJ (kd cs s.1)/\(zbK wd cs s.1 (zaO (kd cs s.1) s.2)).2.2=true
def itS(wd:Int)(cs:List (Int × Int))(s:Int × Int):Nat->Int × Int
 | 0=>s
 | i+1=>nxS wd cs (itS wd cs s i)
theorem zbt(h:(zbK wd cs x e).2.2=true):(0<=(zbK wd cs x e).1/\(zbK wd cs x e).1<(cs.length:Int))/\(0<=e/\e<=3)/\zbK wd cs (zbK wd cs x e).1 ((e+2) % 4)=(x,(e+2) % 4,true):=by
 obtain⟨x2,d2,b2,ev⟩:∃ x2 d2 b2,zbK wd cs x e=(x2,d2,b2):=⟨_,_,_,rfl⟩
 rw[ev] at h ⊢
 simp only at h ⊢
 subst h
 obtain⟨e2,he,_,_,_,hb,_⟩:=zkx ev
 subst e2
 exact⟨(zim hb).2.1,he,hb⟩
theorem zr5(h:zl6 wd cs s):okS cs (nxS wd cs s):=by
 obtain⟨h1,h2,_⟩:=zbt h.2
 exact⟨h1,h2⟩
theorem zrp(hs:okS cs s)(ht:okS cs t)(ls:zl6 wd cs s)(lt:zl6 wd cs t)(h:nxS wd cs s=nxS wd cs t):s=t:=by
 unfold nxS at h
 simp only[Prod.mk.injEq] at h
 have b1:=(zbt ls.2).2.2
 have b2:=(zbt lt.2).2.2
 rw[h.1,h.2,b2] at b1
 simp only[Prod.mk.injEq] at b1
 have e1:t.1=s.1:=b1.1
 have e2:=h.2
 rw[e1] at e2
 exact Prod.ext e1.symm (znX hs.2 ht.2 e2)
theorem zo3(h:zl6 wd cs t)(e:nxS wd cs t=s):¬ fresh wd cs s.1 s.2:=by
 have b:=(zbt h.2).2.2
 subst e
 rintro (q|q)
 ·rw[show (zbK wd cs (nxS wd cs t).1 (((nxS wd cs t).2+2) % 4))=_ from b] at q
  simp at q
 ·rw[show (zbK wd cs (nxS wd cs t).1 (((nxS wd cs t).2+2) % 4))=_ from b] at q
  exact q h.1
theorem zqy :∀(j:Nat) (s:Int × Int),¬ stops wd cs j s.1 s.2->∀ i,i<j->zl6 wd cs (itS wd cs s i):=by
 have key:∀(i j:Nat) (s:Int × Int),¬ stops wd cs j s.1 s.2->i<=j->¬ stops wd cs (j - i) (itS wd cs s i).1 (itS wd cs s i).2:=by
  intro i
  induction i with
  | zero=>intro j s h _;exact h
  | succ i ih =>
   intro j s h hi
   have q:=ih j s h (by omega)
   rw[show j - i=(j - (i+1))+1 by omega] at q
   intro q2
   exact q (Or.inr (Or.inr q2))
 intro j s h i hi
 have q:=key i j s h (by omega)
 rw[show j - i=(j - i - 1)+1 by omega] at q
 refine⟨Classical.byContradiction fun n=>q (Or.inl n),?_⟩
 by_cases c:(zbK wd cs (itS wd cs s i).1 (zaO (kd cs (itS wd cs s i).1) (itS wd cs s i).2)).2.2=true
 ·exact c
 ·exact absurd (Or.inr (Or.inl (by simpa using c))) q
theorem zjd(hn:cs.length<=25)(hx:0<=x/\x<(cs.length:Int))(hd:0<=d/\d<=3)(hf:fresh wd cs x d):stops wd cs 101 x d:=by
 refine Classical.byContradiction fun hno=>?_
 have ha:=zqy 101 (x,d) hno
 have hok:∀ i,i<101->okS cs (itS wd cs (x,d) i):=by
  intro i
  cases i with
  | zero=>intro _;exact⟨hx,hd⟩
  | succ i=>intro hi;exact zr5 (ha i (by omega))
 have hne:∀ i m,i<m->m<101->itS wd cs (x,d) i≠itS wd cs (x,d) m:=by
  intro i
  induction i with
  | zero =>
   intro m hm hm2 e
   obtain⟨p,rfl⟩:∃ p,m=p+1:=⟨m - 1,by omega⟩
   exact zo3 (s:=(x,d)) (ha p (by omega)) e.symm hf
  | succ i ih =>
   intro m hm hm2 e
   obtain⟨p,rfl⟩:∃ p,m=p+1:=⟨m - 1,by omega⟩
   exact ih p (by omega) (by omega) (zrp (hok i (by omega)) (hok p (by omega)) (ha i (by omega)) (ha p (by omega)) e)
 obtain⟨i,j,hij,hj,e⟩:=zqJ 100 (fun i=>(4 * (itS wd cs (x,d) i).1+(itS wd cs (x,d) i).2).toNat) (by
  intro i hi
  obtain⟨q1,q2⟩:=hok i (by omega)
  show (4 * (itS wd cs (x,d) i).1+(itS wd cs (x,d) i).2).toNat<100
  omega)
 obtain⟨q1,q2⟩:=hok i (by omega)
 obtain⟨q3,q4⟩:=hok j (by omega)
 exact hne i j hij (by omega) (Prod.ext (by omega) (by omega))
theorem zk6(hk:¬ zfJ (kd cs x))(h:(zbK wd cs x e).2.2=true):fresh wd cs (zbK wd cs x e).1 e:=by
 right
 rw[(zbt h).2.2]
 exact hk
theorem zhU(hn:cs.length<=25):∀(l:Nat) (x d:Int) (wt:Nat),wt<2 ^ l->(0<=x/\x<(cs.length:Int))->(0<=d/\d<=3)->fresh wd cs x d->zaz wd cs (101 * l) x d wt:=by
 intro l
 induction l with
 | zero =>
  intro x d wt h _ _ _
  have:wt=0:=by simp at h;exact h
  exact this
 | succ l ih =>
  have half:∀(j:Nat) (x e:Int) (wt:Nat),wt<2 ^ (l+1)->¬ zfJ (kd cs x)->lvE wd cs (zaz wd cs (101 * l+j)) x e (wt / 2):=by
   intro j x e wt hw hk
   by_cases c:(zbK wd cs x e).2.2=true
   ·obtain⟨r1,r2,_⟩:=zbt c
    have hw2:wt / 2<2 ^ l:=by rw[Nat.pow_succ] at hw;omega
    exact Or.inr (Or.inr (zi7 wd cs (101 * l) j _ _ _ (ih _ e (wt / 2) hw2 r1 r2 (zk6 hk c))))
   ·exact Or.inr (Or.inl (by simpa using c))
  have path:∀(j:Nat) (x d:Int) (wt:Nat),wt<2 ^ (l+1)->stops wd cs j x d->zaz wd cs (101 * l+j) x d wt:=by
   intro j
   induction j with
   | zero=>intro x d wt _ h;exact absurd h (fun q=>q)
   | succ j ihj =>
    intro x d wt hw hs
    show zaz wd cs (101 * l+j+1) x d wt
    by_cases h1:kd cs x=1\/kd cs x=7
    ·exact Or.inr (Or.inl h1)
    by_cases h6:kd cs x=6
    ·exact Or.inr (Or.inr (Or.inl ⟨h6,half j x d wt hw (fun q=>q.2.2.1 h6)⟩))
    by_cases h4:kd cs x=4\/kd cs x=5
    ·have hk:¬ zfJ (kd cs x):=fun q=>by rcases h4 with h|h;exact q.2.2.2.1 h;exact q.2.2.2.2 h
     exact Or.inr (Or.inr (Or.inr (Or.inl ⟨h4,half j x d wt hw hk,half j x _ wt hw hk⟩)))
    ·have hp:zfJ (kd cs x):=⟨fun q=>h1 (Or.inl q),fun q=>h1 (Or.inr q),h6,fun q=>h4 (Or.inl q),fun q=>h4 (Or.inr q)⟩
     refine Or.inr (Or.inr (Or.inr (Or.inr ⟨hp,?_⟩)))
     rcases hs with q|q|q
     ·exact absurd hp q
     ·exact Or.inr (Or.inl q)
     ·exact Or.inr (Or.inr (ihj _ _ _ hw q))
  intro x d wt hw hx hd hf
  exact path 101 x d wt hw (zjd hn hx hd hf)
theorem zcR(h:zb1 wd cs k=(x,d,true)):((0<=x/\x<(cs.length:Int))/\(0<=d/\d<=3))/\zaz wd cs 707 x d 64:=by
 obtain⟨hd,hr,_,_⟩:=zma h
 have c:okG wd cs=true/\0<=k/\k<zcl wd cs:=by
  unfold zb1 at h
  split at h
  ·assumption
  ·simp at h
 obtain⟨W,H,S⟩:=zeE c.1
 have hk:=c.2
 rw[S.em] at hk
 obtain⟨K,rfl⟩:=Int.eq_ofNat_of_zero_le hk.1
 have hn:cs.length<=25:=by rw[S.el];exact Nat.le_trans (Nat.mul_le_mul S.hW.2 S.hH.2) (by omega)
 have hx:0<=x/\x<(cs.length:Int):=by
  rw[zdQ S K (by omega)] at h
  simp only[Prod.mk.injEq] at h
  have:=(zgH W H K S.hW S.hH (by omega) x d (Prod.ext h.1 h.2.1)).1
  rw[S.el]
  simpa using this
 exact⟨⟨hx,hd⟩,zhU hn 7 x d 64 (by omega) hx hd (Or.inl (by rw[hr]))⟩
