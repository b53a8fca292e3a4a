/- Part. -/
import Derived.Test.YthfhlgdeghnggaaGreatTAq
import Derived.Test.YthfhlgdeghnggaaGreatTAr
set_option maxHeartbeats 400000
set_option linter.unusedVariables false
namespace Go.Proofs.YthfhlgdeghnggaaGreat
variable{d e k wd x:Int}{s t:Int × Int}{go go':Int->Int->Nat->Prop}{cs:List (Int × Int)}{H W:Nat}
namespace Sp
variable{aLt:Nat->Func->Func}
open Go.RowKit
abbrev nI(n:Nat):Int:=(n:Int)
theorem zmo:∀ W:Fin 5,∀ H:Fin 5,∀ k:Fin 20,k.val<2 * (W.val+1+(H.val+1)) ->
  (0<=(zdq (nI (W.val+1)) (nI (H.val+1)) (nI k.val)).1/\(zdq (nI (W.val+1)) (nI (H.val+1)) (nI k.val)).1<nI (W.val+1) * nI (H.val+1)) /\
  inG ((zdq (nI (W.val+1)) (nI (H.val+1)) (nI k.val)).1 / nI (W.val+1)+zbg (((zdq (nI (W.val+1)) (nI (H.val+1)) (nI k.val)).2+2) % 4)) ((zdq (nI (W.val+1)) (nI (H.val+1)) (nI k.val)).1 % nI (W.val+1)+zbx (((zdq (nI (W.val+1)) (nI (H.val+1)) (nI k.val)).2+2) % 4)) (nI (W.val+1)) (nI (H.val+1))=false /\
  ofN (nI (W.val+1)) (nI (H.val+1)) (zdq (nI (W.val+1)) (nI (H.val+1)) (nI k.val)).1 (((zdq (nI (W.val+1)) (nI (H.val+1)) (nI k.val)).2+2) % 4) (2 * (W.val+1+(H.val+1)))=nI k.val:=by decide +kernel
theorem zlN:∀ W:Fin 5,∀ H:Fin 5,∀ x:Fin 25,∀ d:Fin 4,x.val<(W.val+1) * (H.val+1) ->
  if inG (nI x.val / nI (W.val+1)+zbg (nI d.val)) (nI x.val % nI (W.val+1)+zbx (nI d.val)) (nI (W.val+1)) (nI (H.val+1))=true then ofN (nI (W.val+1)) (nI (H.val+1)) (nI x.val) (nI d.val) (2 * (W.val+1+(H.val+1)))=-1
  else (0<=ofN (nI (W.val+1)) (nI (H.val+1)) (nI x.val) (nI d.val) (2 * (W.val+1+(H.val+1)))/\ofN (nI (W.val+1)) (nI (H.val+1)) (nI x.val) (nI d.val) (2 * (W.val+1+(H.val+1)))<2 * (nI (W.val+1)+nI (H.val+1))) /\
   zdq (nI (W.val+1)) (nI (H.val+1)) (ofN (nI (W.val+1)) (nI (H.val+1)) (nI x.val) (nI d.val) (2 * (W.val+1+(H.val+1))))=(nI x.val,(nI d.val+2) % 4):=by decide +kernel
theorem zgX(W H k:Nat)(hW:1<=W/\W<=5)(hH:1<=H/\H<=5)(hk:k<2 * (W+H))(x d:Int)(hs:zdq W H k=(x,d)) :
  (0<=x/\x<(W:Int) * (H:Int))/\(0<=d/\d<=3)/\inG (x / (W:Int)+zbg ((d+2) % 4)) (x % (W:Int)+zbx ((d+2) % 4)) W H=false/\ofN W H x ((d+2) % 4) (2 * (W+H))=(k:Int):=by
 have h:=zmo ⟨W - 1,by omega⟩ ⟨H - 1,by omega⟩ ⟨k,by omega⟩
 simp only[show W - 1+1=W by omega,show H - 1+1=H by omega,nI] at h
 have h2:=h hk
 rw[hs] at h2
 exact⟨h2.1,zk7 _ _ _ _ _ hs,h2.2.1,h2.2.2⟩
theorem zot(W H x d:Nat)(hW:1<=W/\W<=5)(hH:1<=H/\H<=5)(hx:x<W * H)(hd:d<4) :
  (inG ((x:Int) / (W:Int)+zbg (d:Int)) ((x:Int) % (W:Int)+zbx (d:Int)) W H=true/\ofN W H x d (2 * (W+H))=-1) \/
  (inG ((x:Int) / (W:Int)+zbg (d:Int)) ((x:Int) % (W:Int)+zbx (d:Int)) W H=false/\∃ k:Nat,k<2 * (W+H)/\ofN W H x d (2 * (W+H))=(k:Int)/\zdq W H k=((x:Int),((d:Int)+2) % 4)):=by
 have hx2:x<25:=nll hx (Nat.le_trans (Nat.mul_le_mul hW.2 hH.2) (by omega))
 have h:=zlN ⟨W - 1,by omega⟩ ⟨H - 1,by omega⟩ ⟨x,hx2⟩ ⟨d,hd⟩
 simp only[show W - 1+1=W by omega,show H - 1+1=H by omega,nI] at h
 have h2:=h hx
 by_cases q:inG ((x:Int) / (W:Int)+zbg (d:Int)) ((x:Int) % (W:Int)+zbx (d:Int)) W H=true
 ·rw[if_pos q] at h2
  exact Or.inl ⟨q,h2⟩
 ·rw[if_neg q] at h2
  obtain⟨⟨k0,k1⟩,k2⟩:=h2
  obtain⟨k,hk⟩:=Int.eq_ofNat_of_zero_le k0
  rw[hk] at k1 k2
  exact Or.inr ⟨by simpa using q,k,by omega,hk,k2⟩
structure Siz(wd:Int)(cs:List (Int × Int))(W H:Nat):Prop where
 ok:okG wd cs=true
 ew:wd=(W:Int)
 hW:1<=W/\W<=5
 hH:1<=H/\H<=5
 el:cs.length=W * H
 hI:(cs.length:Int) / wd=(H:Int)
 em:zb1 wd cs=2 * ((W:Int)+(H:Int))
theorem zeh(h:okG wd cs=true):∃ W H,Siz wd cs W H:=by
 obtain⟨W,H,rfl,h1,h2,h3,h4,el,hH,hHI⟩:=zfS wd cs h
 exact⟨W,H,h,rfl,⟨h1,h2⟩,⟨h3,h4⟩,el,hHI,zcD h hHI⟩
theorem zd2(S:Siz wd cs W H)(k:Nat)(hk:k<2 * (W+H)):zb0 wd cs (k:Int)=((zdq W H k).1,(zdq W H k).2,true):=by
 unfold zb0
 rw[if_pos ⟨S.ok,by omega,by rw[S.em];omega⟩,S.hI,S.ew]
theorem zfc(S:Siz wd cs W H)(x d:Int)(hx:0<=x/\x<(W:Int) * (H:Int))(hd:0<=d/\d<=3):zcE wd cs x d=ofN W H x d (2 * (W+H)):=by
 unfold zcE
 have e1:(cs.length:Int)=(W:Int) * (H:Int):=by rw[S.el];simp
 rw[if_pos ⟨S.ok,by rw[e1];exact hx,hd⟩,S.em,S.hI,S.ew,show (2 * ((W:Int)+(H:Int))).toNat=2 * (W+H) by omega]
theorem zj4(S:Siz wd cs W H)(x d:Int)(hx:0<=x/\x<(W:Int) * (H:Int))(hd:0<=d/\d<=3) :
  zbJ wd cs x d=if inG (x / (W:Int)+zbg d) (x % (W:Int)+zbx d) W H=true then ((x / (W:Int)+zbg d) * (W:Int)+(x % (W:Int)+zbx d),d,true) else (0,0,false):=by
 unfold zbJ
 have e1:(cs.length:Int)=(W:Int) * (H:Int):=by rw[S.el];simp
 rw[S.hI,S.ew]
 by_cases g:inG (x / (W:Int)+zbg d) (x % (W:Int)+zbx d) W H=true
 ·rw[if_pos ⟨by rw[<- S.ew];exact S.ok,by rw[e1];exact hx,hd,g⟩,if_pos g]
 ·rw[if_neg (fun q=>g q.2.2.2),if_neg g]
theorem zm0(h:zb0 wd cs k=(x,d,true)) :
  (0<=d/\d<=3)/\zbJ wd cs x ((d+2) % 4)=(0,0,false)/\zcE wd cs x ((d+2) % 4)=k/\k<zb1 wd cs:=by
 unfold zb0 at h
 split at h
 ·next c =>
  obtain⟨W,H,S⟩:=zeh c.1
  have hk:=c.2
  rw[S.em] at hk
  obtain⟨K,rfl⟩:=Int.eq_ofNat_of_zero_le hk.1
  have hs:zdq W H K=(x,d):=by
   rw[S.hI,S.ew] at h
   simp only[Prod.mk.injEq] at h
   rw[<- h.1,<- h.2.1]
  obtain⟨hx,hd,hg,ho⟩:=zgX W H K S.hW S.hH (by omega) x d hs
  refine⟨hd,?_,?_,c.2.2⟩
  ·rw[zj4 S x _ hx (by omega),if_neg (by simp[hg])]
  ·rw[zfc S x _ hx (by omega)];exact ho
 ·simp at h
theorem zp7(hk:okG wd cs=true)(hx:0<=x/\x<(cs.length:Int))(hd:0<=d/\d<=3) :
  (∃ x2 d2,zbJ wd cs x d=(x2,d2,true)/\zcE wd cs x d=-1)\/(zbJ wd cs x d=(0,0,false)/\zb0 wd cs (zcE wd cs x d)=(x,(d+2) % 4,true)):=by
 obtain⟨W,H,S⟩:=zeh hk
 have e1:(cs.length:Int)=(W:Int) * (H:Int):=by rw[S.el];simp
 rw[e1] at hx
 obtain⟨X,rfl⟩:=Int.eq_ofNat_of_zero_le hx.1
 obtain⟨D,rfl⟩:=Int.eq_ofNat_of_zero_le hd.1
 have hX:X<W * H:=by have:=hx.2;exact_mod_cast this
 rcases zot W H X D S.hW S.hH hX (by omega) with ⟨g,o⟩|⟨g,k,hk,o,s⟩
 ·left
  exact⟨_,_,by rw[zj4 S _ _ hx hd,if_pos g],by rw[zfc S _ _ hx hd];exact o⟩
 ·right
  refine⟨by rw[zj4 S _ _ hx hd,if_neg (by simp[g])],?_⟩
  rw[zfc S _ _ hx hd,o,zd2 S k hk,s]
def zcL(k:Int):Nat:=if k=2\/k=4 then 155 else if k=3\/k=5 then 156 else 154
def zi0(d:Int):Int:=if d=0\/d=2 then d+1 else d - 1
def zaQ(k d:Int):Int:=if d<0\/3<d then -1 else if k=2\/k=4 then zi0 d else if k=3\/k=5 then 3 - d else d
theorem zku(k:Int)(h:k<0\/7<k)(w:World) :
  Calls (SqG.prog aLt) 148 #[.int .i64 k] w fun e w'=>e=.returned (.func (.func (zcL k)) #[] #[])/\Below w.heap.size w w':=by
 have ht:zcL k=154:=by unfold zcL;rw[if_neg (by omega),if_neg (by omega)]
 rw[ht]
 rcases h with h|h
 all_goals
  go_enter SqG.func148,Tryz.ntmps148
  go_wp2
  go_ret
  exact⟨rfl,bel⟩
theorem zqH(w:World) :
  Calls (SqG.prog aLt) 148 #[.int .i64 0] w fun e w'=>e=.returned (.func (.func (zcL 0)) #[] #[])/\Below w.heap.size w w':=by
 go_enter SqG.func148,Tryz.ntmps148
 go_wp2
 go_ret
 exact⟨rfl,bel⟩
theorem zqI(w:World) :
  Calls (SqG.prog aLt) 148 #[.int .i64 1] w fun e w'=>e=.returned (.func (.func (zcL 1)) #[] #[])/\Below w.heap.size w w':=by
 go_enter SqG.func148,Tryz.ntmps148
 go_wp2
 go_ret
 exact⟨rfl,bel⟩
theorem zqJ(w:World) :
  Calls (SqG.prog aLt) 148 #[.int .i64 2] w fun e w'=>e=.returned (.func (.func (zcL 2)) #[] #[])/\Below w.heap.size w w':=by
 go_enter SqG.func148,Tryz.ntmps148
 go_wp2
 go_ret
 exact⟨rfl,bel⟩
theorem zqK(w:World) :
  Calls (SqG.prog aLt) 148 #[.int .i64 3] w fun e w'=>e=.returned (.func (.func (zcL 3)) #[] #[])/\Below w.heap.size w w':=by
 go_enter SqG.func148,Tryz.ntmps148
 go_wp2
 go_ret
 exact⟨rfl,bel⟩
theorem zqL(w:World) :
  Calls (SqG.prog aLt) 148 #[.int .i64 4] w fun e w'=>e=.returned (.func (.func (zcL 4)) #[] #[])/\Below w.heap.size w w':=by
 go_enter SqG.func148,Tryz.ntmps148
 go_wp2
 go_ret
 exact⟨rfl,bel⟩
theorem zqM(w:World) :
  Calls (SqG.prog aLt) 148 #[.int .i64 5] w fun e w'=>e=.returned (.func (.func (zcL 5)) #[] #[])/\Below w.heap.size w w':=by
 go_enter SqG.func148,Tryz.ntmps148
 go_wp2
 go_ret
 exact⟨rfl,bel⟩
theorem zqN(w:World) :
  Calls (SqG.prog aLt) 148 #[.int .i64 6] w fun e w'=>e=.returned (.func (.func (zcL 6)) #[] #[])/\Below w.heap.size w w':=by
 go_enter SqG.func148,Tryz.ntmps148
 go_wp2
 go_ret
 exact⟨rfl,bel⟩
theorem zqO(w:World) :
  Calls (SqG.prog aLt) 148 #[.int .i64 7] w fun e w'=>e=.returned (.func (.func (zcL 7)) #[] #[])/\Below w.heap.size w w':=by
 go_enter SqG.func148,Tryz.ntmps148
 go_wp2
 go_ret
 exact⟨rfl,bel⟩
theorem zmL(k:Int)(w:World) :
  Calls (SqG.prog aLt) 148 #[.int .i64 k] w fun e w'=>e=.returned (.func (.func (zcL k)) #[] #[])/\Below w.heap.size w w':=by
 by_cases h:k<0\/7<k
 ·exact zku k h w
 ·rcases (show k=0\/k=1\/k=2\/k=3\/k=4\/k=5\/k=6\/k=7 by omega) with rfl|rfl|rfl|rfl|rfl|rfl|rfl|rfl
  ·exact zqH w
  ·exact zqI w
  ·exact zqJ w
  ·exact zqK w
  ·exact zqL w
  ·exact zqM w
  ·exact zqN w
  ·exact zqO w
theorem zgo(k:Int)(n:Nat)(h:zcL k=n)(w:World) :
  Calls (SqG.prog aLt) 148 #[.int .i64 k] w fun e w'=>e=.returned (.func (.func n) #[] #[])/\Below w.heap.size w w':=by
 rw[<- h]
 exact zmL k w
theorem zje(k d:Int)(h:d<0\/3<d):zaQ k d=-1:=by unfold zaQ;rw[if_pos h]
theorem zdn(k d:Int)(h0:0<=d)(h3:d<=3):zaQ k d=if k=2\/k=4 then zi0 d else if k=3\/k=5 then 3 - d else d:=by unfold zaQ;rw[if_neg (by omega)]
theorem zi8(d:Int)(w:World) :
  Calls (SqG.prog aLt) 154 #[.int .i64 d] w fun e w'=>e=.returned (.int .i64 d)/\w'=w:=by
 go_enter SqG.func154,Tryz.ntmps154
 go_wp2
 go_ret
 exact⟨rfl,rfl⟩
theorem zjv(d:Int)(h0:0<=d)(h3:d<=3)(w:World) :
  Calls (SqG.prog aLt) 155 #[.int .i64 d] w fun e w'=>e=.returned (.int .i64 (zi0 d))/\w'=w:=by
 rcases (show d=0\/d=1\/d=2\/d=3 by omega) with rfl|rfl|rfl|rfl
 all_goals
  go_enter SqG.func155,Tryz.ntmps155
  go_wp2
  go_ret
  exact⟨rfl,rfl⟩
theorem zlx(d:Int)(h0:0<=d)(h3:d<=3)(w:World) :
  Calls (SqG.prog aLt) 156 #[.int .i64 d] w fun e w'=>e=.returned (.int .i64 (3 - d))/\w'=w:=by
 rcases (show d=0\/d=1\/d=2\/d=3 by omega) with rfl|rfl|rfl|rfl
 all_goals
  go_enter SqG.func156,Tryz.ntmps156
  go_wp2
  go_ret
  exact⟨rfl,rfl⟩
theorem zfL(k d:Int)(w:World) :
  Calls (SqG.prog aLt) 131 #[.int .i64 k,.int .i64 d] w fun e w'=>e=.returned (.int .i64 (zaQ k d))/\Below w.heap.size w w':=by
 by_cases hd:d<0\/3<d
 ·rw[zje k d hd]
  have hi:inB d 0 3=false:=by simp[inB];omega
  clear hd
  go_enter SqG.func131,Tryz.ntmps131
  go_wp2_with fail
  refine(zbp _ _).mono ?_
  rintro e w' ⟨rfl,rfl⟩
  go_wp2
  go_ret
  exact⟨rfl,bel⟩
 ·have h0:0<=d:=by omega
  have h3:d<=3:=by omega
  have hi:inB d 0 3=true:=by simp[inB,h0,h3]
  rw[zdn k d h0 h3]
  by_cases h24:k=2\/k=4
  ·have ht:zcL k=155:=by unfold zcL;rw[if_pos h24]
   rw[if_pos h24]
   clear h24 hd
   go_enter SqG.func131,Tryz.ntmps131
   go_wp2_with fail
   refine(zbp _ _).mono ?_
   rintro e w' ⟨rfl,rfl⟩
   go_wp2_with fail
   refine(zgo k _ ht _).mono ?_
   rintro e w1 ⟨rfl,hb⟩
   go_wp2_with fail
   skip
   refine(zjv d h0 h3 _).mono ?_
   rintro e w' ⟨rfl,rfl⟩
   go_wp2_with fail
   go_ret
   exact⟨rfl,by first|exact hb|exact hb.drew⟩
  ·rw[if_neg h24]
   by_cases h35:k=3\/k=5
   ·have ht:zcL k=156:=by unfold zcL;rw[if_neg h24,if_pos h35]
    rw[if_pos h35]
    clear h24 h35 hd
    go_enter SqG.func131,Tryz.ntmps131
    go_wp2_with fail
    refine(zbp _ _).mono ?_
    rintro e w' ⟨rfl,rfl⟩
    go_wp2_with fail
    refine(zgo k _ ht _).mono ?_
    rintro e w1 ⟨rfl,hb⟩
    go_wp2_with fail
    skip
    refine(zlx d h0 h3 _).mono ?_
    rintro e w' ⟨rfl,rfl⟩
    go_wp2_with fail
    go_ret
    exact⟨rfl,by first|exact hb|exact hb.drew⟩
   ·have ht:zcL k=154:=by unfold zcL;rw[if_neg h24,if_neg h35]
    rw[if_neg h35]
    clear h24 h35 hd
    go_enter SqG.func131,Tryz.ntmps131
    go_wp2_with fail
    refine(zbp _ _).mono ?_
    rintro e w' ⟨rfl,rfl⟩
    go_wp2_with fail
    refine(zgo k _ ht _).mono ?_
    rintro e w1 ⟨rfl,hb⟩
    go_wp2_with fail
    skip
    refine(zi8 d _).mono ?_
    rintro e w' ⟨rfl,rfl⟩
    go_wp2_with fail
    go_ret
    exact⟨rfl,by first|exact hb|exact hb.drew⟩
theorem zc6(k d:Int)(w:World) :
  Calls (SqG.prog aLt) 123 #[.int .i64 k,.int .i64 d] w fun e w'=>e=.returned (.int .i64 (zaQ k d))/\w'=w:=by
 by_cases hd:d<0\/3<d
 ·rw[zje k d hd]
  have hi:inB d 0 3=false:=by simp[inB];omega
  clear hd
  go_enter SqG.func123,Tryz.ntmps123
  go_wp2_with (go_at_call 61;refine(zaI _ _ _ _).mono ?_;rintro e w' ⟨rfl,rfl⟩)
  go_ret
  exact⟨rfl,rfl⟩
 ·have h0:0<=d:=by omega
  have h3:d<=3:=by omega
  have hi:inB d 0 3=true:=by simp[inB,h0,h3]
  rw[zdn k d h0 h3]
  by_cases h24:k=2\/k=4
  ·rw[if_pos h24]
   clear hd hi
   rcases h24 with rfl|rfl
   all_goals
    rcases (show d=0\/d=1\/d=2\/d=3 by omega) with rfl|rfl|rfl|rfl
    all_goals
     clear h0 h3
     go_enter SqG.func123,Tryz.ntmps123
     go_wp2_with (first|(go_at_call 61;go_enter SqG.func61,Tryz.ntmps61)|fail)
     go_ret
     exact⟨rfl,rfl⟩
  ·rw[if_neg h24]
   by_cases h35:k=3\/k=5
   ·rw[if_pos h35]
    clear hd hi h24
    rcases h35 with rfl|rfl
    all_goals
     rcases (show d=0\/d=1\/d=2\/d=3 by omega) with rfl|rfl|rfl|rfl
     all_goals
      clear h0 h3
      go_enter SqG.func123,Tryz.ntmps123
      go_wp2_with (first|(go_at_call 61;go_enter SqG.func61,Tryz.ntmps61)|fail)
      go_ret
      exact⟨rfl,rfl⟩
   ·rw[if_neg h35]
    have n2:(k == 2)=false:=by simp;omega
    have n3:(k == 3)=false:=by simp;omega
    have n4:(k == 4)=false:=by simp;omega
    have n5:(k == 5)=false:=by simp;omega
    clear hd h24 h35
    go_enter SqG.func123,Tryz.ntmps123
    go_wp2_with (go_at_call 61;refine(zaI _ _ _ _).mono ?_;rintro e w' ⟨rfl,rfl⟩)
    go_ret
    exact⟨rfl,rfl⟩
def kd(cs:List (Int × Int))(x:Int):Int:=(cs.getD x.toNat (0,0)).1
abbrev Tr:=List (Int × Int × Int) × List (Int × Int × Int)
def za2(a b:Tr):Tr:=(a.1++b.1,a.2++b.2)
def zdg(kind wh:Int)(wt:Nat):Tr:=([],if wt=0 then [] else [(kind,wh,(wt:Int))])
def lvT(wd:Int)(cs:List (Int × Int))(go:Int->Int->Nat->Tr)(x e:Int)(h:Nat):Tr :=
 if h=0 then ([],[]) else if (zbJ wd cs x e).2.2=true then go (zbJ wd cs x e).1 e h else zdg 0 (zcE wd cs x e) h
def zbd(wd:Int)(cs:List (Int × Int))(go:Int->Int->Nat->Tr)(x d:Int)(wt:Nat):Tr :=
 if kd cs x=1 then zdg 1 x wt else if kd cs x=7 then zdg 2 x wt
 else if kd cs x=6 then za2 (zdg 3 x (wt - wt / 2)) (lvT wd cs go x d (wt / 2))
 else if kd cs x=4\/kd cs x=5 then za2 (zdg 3 x (wt - 2 * (wt / 2))) (za2 (lvT wd cs go x d (wt / 2)) (lvT wd cs go x (zaQ (kd cs x) d) (wt / 2)))
 else lvT wd cs go x (zaQ (kd cs x) d) wt
def zaK(wd:Int)(cs:List (Int × Int)):Nat->Int->Int->Nat->Tr
 | 0=>fun _ _ _=>([],[])
 | f+1=>fun x d wt=>if wt=0 then ([],[]) else za2 ([(x,d,(wt:Int))],[]) (zbd wd cs (zaK wd cs f) x d wt)
def zfW(k:Int):Prop:=k≠1/\k≠7/\k≠6/\k≠4/\k≠5
def lvE(wd:Int)(cs:List (Int × Int))(go:Int->Int->Nat->Prop)(x e:Int)(h:Nat):Prop:=h=0\/(zbJ wd cs x e).2.2=false\/go (zbJ wd cs x e).1 e h
def zay(wd:Int)(cs:List (Int × Int)):Nat->Int->Int->Nat->Prop
 | 0=>fun _ _ wt=>wt=0
 | f+1=>fun x d wt=>wt=0\/(kd cs x=1\/kd cs x=7)\/(kd cs x=6/\lvE wd cs (zay wd cs f) x d (wt / 2)) \/
   ((kd cs x=4\/kd cs x=5)/\lvE wd cs (zay wd cs f) x d (wt / 2)/\lvE wd cs (zay wd cs f) x (zaQ (kd cs x) d) (wt / 2))\/(zfW (kd cs x)/\lvE wd cs (zay wd cs f) x (zaQ (kd cs x) d) wt)
theorem zd4(hm:∀ x d wt,go x d wt->go' x d wt){h:Nat}(q:lvE wd cs go x e h):lvE wd cs go' x e h:=by
 rcases q with q|q|q
 ·exact Or.inl q
 ·exact Or.inr (Or.inl q)
 ·exact Or.inr (Or.inr (hm _ _ _ q))
theorem zfz(wd:Int)(cs:List (Int × Int)):∀ f x d wt,zay wd cs f x d wt->zay wd cs (f+1) x d wt:=by
 intro f
 induction f with
 | zero=>intro x d wt h;exact Or.inl h
 | succ f ih =>
  intro x d wt h
  rcases h with h|h|⟨h1,h2⟩|⟨h1,h2,h3⟩|⟨h1,h2⟩
  ·exact Or.inl h
  ·exact Or.inr (Or.inl h)
  ·exact Or.inr (Or.inr (Or.inl ⟨h1,zd4 ih h2⟩))
  ·exact Or.inr (Or.inr (Or.inr (Or.inl ⟨h1,zd4 ih h2,zd4 ih h3⟩)))
  ·exact Or.inr (Or.inr (Or.inr (Or.inr ⟨h1,zd4 ih h2⟩)))
theorem zjA(wd:Int)(cs:List (Int × Int))(f m:Nat)(x d:Int)(wt:Nat)(h:zay wd cs f x d wt):zay wd cs (f+m) x d wt:=by
 induction m with
 | zero=>exact h
 | succ m ih=>exact zfz wd cs (f+m) x d wt ih
def stops(wd:Int)(cs:List (Int × Int)):Nat->Int->Int->Prop
 | 0=>fun _ _=>False
 | j+1=>fun x d=>¬ zfW (kd cs x)\/(zbJ wd cs x (zaQ (kd cs x) d)).2.2=false\/stops wd cs j (zbJ wd cs x (zaQ (kd cs x) d)).1 (zaQ (kd cs x) d)
def fresh(wd:Int)(cs:List (Int × Int))(x d:Int):Prop:=(zbJ wd cs x ((d+2) % 4)).2.2=false\/¬ zfW (kd cs (zbJ wd cs x ((d+2) % 4)).1)
theorem zrI:∀(n:Nat) (f:Nat->Nat),(∀ i,i<n+1->f i<n)->∃ i j,i<j/\j<n+1/\f i=f j:=by
 intro n
 induction n with
 | zero=>intro f h;have:=h 0 (by omega);omega
 | succ n ih =>
  intro f h
  by_cases c:∃ i,i<n+1/\f i=f (n+1)
  ·obtain⟨i,hi,e⟩:=c
   exact⟨i,n+1,hi,by omega,e⟩
  ·have c':∀ i,i<n+1->f i≠f (n+1):=fun i hi e=>c ⟨i,hi,e⟩
   obtain⟨i,j,hij,hj,e⟩:=ih (fun i=>if f i=n then f (n+1) else f i) (by
    intro i hi
    have h1:=h i (by omega)
    have h2:=h (n+1) (by omega)
    have h3:=c' i hi
    show (if f i=n then f (n+1) else f i)<n
    split <;> omega)
   refine⟨i,j,hij,by omega,?_⟩
   have hi1:=c' i (by omega)
   have hj1:=c' j hj
   split at e <;> split at e <;> omega
theorem zdI(hd:0<=d/\d<=3):0<=zaQ k d/\zaQ k d<=3:=by
 rw[zdn k d hd.1 hd.2]
 unfold zi0
 split <;> (try split) <;> omega
theorem zoW(hd:0<=d/\d<=3)(he:0<=e/\e<=3)(h:zaQ k d=zaQ k e):d=e:=by
 rw[zdn k d hd.1 hd.2,zdn k e he.1 he.2] at h
 unfold zi0 at h
 split at h
 ·split at h <;> split at h <;> omega
 ·split at h <;> omega
def okS(cs:List (Int × Int))(s:Int × Int):Prop:=(0<=s.1/\s.1<(cs.length:Int))/\(0<=s.2/\s.2<=3)
def nxS(wd:Int)(cs:List (Int × Int))(s:Int × Int):Int × Int:=((zbJ wd cs s.1 (zaQ (kd cs s.1) s.2)).1,zaQ (kd cs s.1) s.2)
def zmV(wd:Int)(cs:List (Int × Int))(s:Int × Int):Prop:=zfW (kd cs s.1)/\(zbJ wd cs s.1 (zaQ (kd cs s.1) s.2)).2.2=true
def itS(wd:Int)(cs:List (Int × Int))(s:Int × Int):Nat->Int × Int
 | 0=>s
 | i+1=>nxS wd cs (itS wd cs s i)
theorem zbt(h:(zbJ wd cs x e).2.2=true):(0<=(zbJ wd cs x e).1/\(zbJ wd cs x e).1<(cs.length:Int))/\(0<=e/\e<=3)/\zbJ wd cs (zbJ wd cs x e).1 ((e+2) % 4)=(x,(e+2) % 4,true):=by
 obtain⟨x2,d2,b2,ev⟩:∃ x2 d2 b2,zbJ wd cs x e=(x2,d2,b2):=⟨_,_,_,rfl⟩
 rw[ev] at h ⊢
 simp only at h ⊢
 subst h
 obtain⟨e2,he,_,_,_,hb,_⟩:=zk3 ev
 subst e2
 exact⟨(ziR hb).2.1,he,hb⟩
theorem zs4(h:zmV wd cs s):okS cs (nxS wd cs s):=by
 obtain⟨h1,h2,_⟩:=zbt h.2
 exact⟨h1,h2⟩
theorem zsq(hs:okS cs s)(ht:okS cs t)(ls:zmV wd cs s)(lt:zmV wd cs t)(h:nxS wd cs s=nxS wd cs t):s=t:=by
 unfold nxS at h
 simp only[Prod.mk.injEq] at h
 have b1:=(zbt ls.2).2.2
 have b2:=(zbt lt.2).2.2
 rw[h.1,h.2,b2] at b1
 simp only[Prod.mk.injEq] at b1
 have e1:t.1=s.1:=b1.1
 have e2:=h.2
 rw[e1] at e2
 exact Prod.ext e1.symm (zoW hs.2 ht.2 e2)
theorem zp4(h:zmV wd cs t)(e:nxS wd cs t=s):¬ fresh wd cs s.1 s.2:=by
 have b:=(zbt h.2).2.2
 subst e
 rintro (q|q)
 ·rw[show (zbJ wd cs (nxS wd cs t).1 (((nxS wd cs t).2+2) % 4))=_ from b] at q
  simp at q
 ·rw[show (zbJ wd cs (nxS wd cs t).1 (((nxS wd cs t).2+2) % 4))=_ from b] at q
  exact q h.1
theorem zrz :∀(j:Nat) (s:Int × Int),¬ stops wd cs j s.1 s.2->∀ i,i<j->zmV wd cs (itS wd cs s i):=by
 have key:∀(i j:Nat) (s:Int × Int),¬ stops wd cs j s.1 s.2->i<=j->¬ stops wd cs (j - i) (itS wd cs s i).1 (itS wd cs s i).2:=by
  intro i
  induction i with
  | zero=>intro j s h _;exact h
  | succ i ih =>
   intro j s h hi
   have q:=ih j s h (by omega)
   rw[show j - i=(j - (i+1))+1 by omega] at q
   intro q2
   exact q (Or.inr (Or.inr q2))
 intro j s h i hi
 have q:=key i j s h (by omega)
 rw[show j - i=(j - i - 1)+1 by omega] at q
 refine⟨Classical.byContradiction fun n=>q (Or.inl n),?_⟩
 by_cases c:(zbJ wd cs (itS wd cs s i).1 (zaQ (kd cs (itS wd cs s i).1) (itS wd cs s i).2)).2.2=true
 ·exact c
 ·exact absurd (Or.inr (Or.inl (by simpa using c))) q
theorem zjI(hn:cs.length<=25)(hx:0<=x/\x<(cs.length:Int))(hd:0<=d/\d<=3)(hf:fresh wd cs x d):stops wd cs 101 x d:=by
 refine Classical.byContradiction fun hno=>?_
 have ha:=zrz 101 (x,d) hno
 have hok:∀ i,i<101->okS cs (itS wd cs (x,d) i):=by
  intro i
  cases i with
  | zero=>intro _;exact⟨hx,hd⟩
  | succ i=>intro hi;exact zs4 (ha i (by omega))
 have hne:∀ i m,i<m->m<101->itS wd cs (x,d) i≠itS wd cs (x,d) m:=by
  intro i
  induction i with
  | zero =>
   intro m hm hm2 e
   obtain⟨p,rfl⟩:∃ p,m=p+1:=⟨m - 1,by omega⟩
   exact zp4 (s:=(x,d)) (ha p (by omega)) e.symm hf
  | succ i ih =>
   intro m hm hm2 e
   obtain⟨p,rfl⟩:∃ p,m=p+1:=⟨m - 1,by omega⟩
   exact ih p (by omega) (by omega) (zsq (hok i (by omega)) (hok p (by omega)) (ha i (by omega)) (ha p (by omega)) e)
 obtain⟨i,j,hij,hj,e⟩:=zrI 100 (fun i=>(4 * (itS wd cs (x,d) i).1+(itS wd cs (x,d) i).2).toNat) (by
  intro i hi
  obtain⟨q1,q2⟩:=hok i (by omega)
  show (4 * (itS wd cs (x,d) i).1+(itS wd cs (x,d) i).2).toNat<100
  omega)
 obtain⟨q1,q2⟩:=hok i (by omega)
 obtain⟨q3,q4⟩:=hok j (by omega)
 exact hne i j hij (by omega) (Prod.ext (by omega) (by omega))
theorem zlI(hk:¬ zfW (kd cs x))(h:(zbJ wd cs x e).2.2=true):fresh wd cs (zbJ wd cs x e).1 e:=by
 right
 rw[(zbt h).2.2]
 exact hk
theorem zii(hn:cs.length<=25):∀(l:Nat) (x d:Int) (wt:Nat),wt<2 ^ l->(0<=x/\x<(cs.length:Int))->(0<=d/\d<=3)->fresh wd cs x d->zay wd cs (101 * l) x d wt:=by
 intro l
 induction l with
 | zero =>
  intro x d wt h _ _ _
  have:wt=0:=by simp at h;exact h
  exact this
 | succ l ih =>
  have half:∀(j:Nat) (x e:Int) (wt:Nat),wt<2 ^ (l+1)->¬ zfW (kd cs x)->lvE wd cs (zay wd cs (101 * l+j)) x e (wt / 2):=by
   intro j x e wt hw hk
   by_cases c:(zbJ wd cs x e).2.2=true
   ·obtain⟨r1,r2,_⟩:=zbt c
    have hw2:wt / 2<2 ^ l:=by rw[Nat.pow_succ] at hw;omega
    exact Or.inr (Or.inr (zjA wd cs (101 * l) j _ _ _ (ih _ e (wt / 2) hw2 r1 r2 (zlI hk c))))
   ·exact Or.inr (Or.inl (by simpa using c))
  have path:∀(j:Nat) (x d:Int) (wt:Nat),wt<2 ^ (l+1)->stops wd cs j x d->zay wd cs (101 * l+j) x d wt:=by
   intro j
   induction j with
   | zero=>intro x d wt _ h;exact absurd h (fun q=>q)
   | succ j ihj =>
    intro x d wt hw hs
    show zay wd cs (101 * l+j+1) x d wt
    by_cases h1:kd cs x=1\/kd cs x=7
    ·exact Or.inr (Or.inl h1)
    by_cases h6:kd cs x=6
    ·exact Or.inr (Or.inr (Or.inl ⟨h6,half j x d wt hw (fun q=>q.2.2.1 h6)⟩))
    by_cases h4:kd cs x=4\/kd cs x=5
    ·have hk:¬ zfW (kd cs x):=fun q=>by rcases h4 with h|h;exact q.2.2.2.1 h;exact q.2.2.2.2 h
     exact Or.inr (Or.inr (Or.inr (Or.inl ⟨h4,half j x d wt hw hk,half j x _ wt hw hk⟩)))
    ·have hp:zfW (kd cs x):=⟨fun q=>h1 (Or.inl q),fun q=>h1 (Or.inr q),h6,fun q=>h4 (Or.inl q),fun q=>h4 (Or.inr q)⟩
     refine Or.inr (Or.inr (Or.inr (Or.inr ⟨hp,?_⟩)))
     rcases hs with q|q|q
     ·exact absurd hp q
     ·exact Or.inr (Or.inl q)
     ·exact Or.inr (Or.inr (ihj _ _ _ hw q))
  intro x d wt hw hx hd hf
  exact path 101 x d wt hw (zjI hn hx hd hf)
theorem zcV(h:zb0 wd cs k=(x,d,true)):((0<=x/\x<(cs.length:Int))/\(0<=d/\d<=3))/\zay wd cs 707 x d 64:=by
 obtain⟨hd,hr,_,_⟩:=zm0 h
 have c:okG wd cs=true/\0<=k/\k<zb1 wd cs:=by
  unfold zb0 at h
  split at h
  ·assumption
  ·simp at h
 obtain⟨W,H,S⟩:=zeh c.1
 have hk:=c.2
 rw[S.em] at hk
 obtain⟨K,rfl⟩:=Int.eq_ofNat_of_zero_le hk.1
 have hn:cs.length<=25:=by rw[S.el];exact Nat.le_trans (Nat.mul_le_mul S.hW.2 S.hH.2) (by omega)
 have hx:0<=x/\x<(cs.length:Int):=by
  rw[zd2 S K (by omega)] at h
  simp only[Prod.mk.injEq] at h
  have:=(zgX W H K S.hW S.hH (by omega) x d (Prod.ext h.1 h.2.1)).1
  rw[S.el]
  simpa using this
 exact⟨⟨hx,hd⟩,zii hn 7 x d 64 (by omega) hx hd (Or.inl (by rw[hr]))⟩
