/- Part. -/
import Derived.Deep.AppendLies
import Derived.Laws.Rows
import Derived.Test.YthfhlgdeghnggaaGreatEAk
set_option maxHeartbeats 4000000
set_option maxRecDepth 20000
set_option linter.unusedVariables false
namespace Go.Proofs.YthfhlgdeghnggaaGreat
variable{d k wd x:Int}{s t:Int × Int}{cs:Lp}{B H W c f pb:Nat}{o:Obj}{a:Od}{e v:Value}{w w' w6:World}
open Tryz
namespace Sp
variable{aLt:Nat->Func->Func}
open Go.RowKit
def zcZ(k:Int):Nat:=if k=2\/k=4 then 155 else if k=3\/k=5 then 156 else 154
def zjH(d:Int):Int:=if d=0\/d=2 then d+1 else d - 1
def zaS(k d:Int):Int:=if d<0\/3<d then -1 else if k=2\/k=4 then zjH d else if k=3\/k=5 then 3 - d else d
theorem zla(k:Int)(h:k<0\/7<k)(w:World) :
  Calls (SqG.prog aLt) 148 #[J k] w (xB w (.func (.func (zcZ k)) #[] #[])):=by
 have ht:zcZ k=154:=by unfold zcZ;rw[if_neg qg,if_neg qg]
 rw[ht]
 rcases h with h|h
 all_goals
  go_enter (zfx func148),ntmps148
  go_wp2
  go_ret
  exact⟨rfl,bel⟩
theorem zrP(w:World) :
  Calls (SqG.prog aLt) 148 #[J 0] w (xB w (.func (.func (zcZ 0)) #[] #[])):=by
 go_enter (zfx func148),ntmps148
 go_wp2
 go_ret
 exact⟨rfl,bel⟩
theorem zrQ(w:World) :
  Calls (SqG.prog aLt) 148 #[J 1] w (xB w (.func (.func (zcZ 1)) #[] #[])):=by
 go_enter (zfx func148),ntmps148
 go_wp2
 go_ret
 exact⟨rfl,bel⟩
theorem zrR(w:World) :
  Calls (SqG.prog aLt) 148 #[J 2] w (xB w (.func (.func (zcZ 2)) #[] #[])):=by
 go_enter (zfx func148),ntmps148
 go_wp2
 go_ret
 exact⟨rfl,bel⟩
theorem zrS(w:World) :
  Calls (SqG.prog aLt) 148 #[J 3] w (xB w (.func (.func (zcZ 3)) #[] #[])):=by
 go_enter (zfx func148),ntmps148
 go_wp2
 go_ret
 exact⟨rfl,bel⟩
theorem zrT(w:World) :
  Calls (SqG.prog aLt) 148 #[J 4] w (xB w (.func (.func (zcZ 4)) #[] #[])):=by
 go_enter (zfx func148),ntmps148
 go_wp2
 go_ret
 exact⟨rfl,bel⟩
theorem zrU(w:World) :
  Calls (SqG.prog aLt) 148 #[J 5] w (xB w (.func (.func (zcZ 5)) #[] #[])):=by
 go_enter (zfx func148),ntmps148
 go_wp2
 go_ret
 exact⟨rfl,bel⟩
theorem zrV(w:World) :
  Calls (SqG.prog aLt) 148 #[J 6] w (xB w (.func (.func (zcZ 6)) #[] #[])):=by
 go_enter (zfx func148),ntmps148
 go_wp2
 go_ret
 exact⟨rfl,bel⟩
theorem zrW(w:World) :
  Calls (SqG.prog aLt) 148 #[J 7] w (xB w (.func (.func (zcZ 7)) #[] #[])):=by
 go_enter (zfx func148),ntmps148
 go_wp2
 go_ret
 exact⟨rfl,bel⟩
theorem znC(k:Int)(w:World) :
  Calls (SqG.prog aLt) 148 #[J k] w (xB w (.func (.func (zcZ k)) #[] #[])):=by
 by_cases h:k<0\/7<k
 ·exact zla k h w
 ·rcases (show k=0\/k=1\/k=2\/k=3\/k=4\/k=5\/k=6\/k=7 by omega) with rfl|rfl|rfl|rfl|rfl|rfl|rfl|rfl
  ·exact zrP w
  ·exact zrQ w
  ·exact zrR w
  ·exact zrS w
  ·exact zrT w
  ·exact zrU w
  ·exact zrV w
  ·exact zrW w
theorem zgH(k:Int)(n:Nat)(h:zcZ k=n)(w:World) :
  Calls (SqG.prog aLt) 148 #[J k] w (xB w (.func (.func n) #[] #[])):=by
 rw[<- h]
 exact znC k w
theorem zjU(k d:Int)(h:d<0\/3<d):zaS k d=-1:=by unfold zaS;rw[if_pos h]
theorem zdL(k d:Int)(h0:0<=d)(h3:d<=3):zaS k d=if k=2\/k=4 then zjH d else if k=3\/k=5 then 3 - d else d:=by unfold zaS;rw[if_neg qg]
theorem zjP(d:Int)(w:World) :
  Calls (SqG.prog aLt) 154 #[J d] w fun e w'=>e=.returned (J d)/\w'=w:=by
 go_enter (zfx func154),ntmps154
 go_wp2
 go_ret
 exact⟨rfl,rfl⟩
theorem zj5(d:Int)(h0:0<=d)(h3:d<=3)(w:World) :
  Calls (SqG.prog aLt) 155 #[J d] w fun e w'=>e=.returned (J (zjH d))/\w'=w:=by
 rcases (show d=0\/d=1\/d=2\/d=3 by omega) with rfl|rfl|rfl|rfl
 all_goals
  go_enter (zfx func155),ntmps155
  go_wp2
  go_ret
  exact⟨rfl,rfl⟩
theorem zmq(d:Int)(h0:0<=d)(h3:d<=3)(w:World) :
  Calls (SqG.prog aLt) 156 #[J d] w fun e w'=>e=.returned (J (3 - d))/\w'=w:=by
 rcases (show d=0\/d=1\/d=2\/d=3 by omega) with rfl|rfl|rfl|rfl
 all_goals
  go_enter (zfx func156),ntmps156
  go_wp2
  go_ret
  exact⟨rfl,rfl⟩
theorem zfV(k d:Int)(w:World) :
  Calls (SqG.prog aLt) 131 #[J k,J d] w (xB w (J (zaS k d))):=by
 by_cases hd:d<0\/3<d
 ·rw[zjU k d hd]
  have hi:inB d 0 3=false:=by simp[inB];omega
  clear hd
  go_enter (zfx func131),ntmps131
  go_wp2_with fail
  refine(zcE _ _).mono ?_
  rintro e w' ⟨rfl,rfl⟩
  go_wp2
  go_ret
  exact⟨rfl,bel⟩
 ·have h0:0<=d:=qg
  have h3:d<=3:=qg
  have hi:inB d 0 3=true:=by simp[inB,h0,h3]
  rw[zdL k d h0 h3]
  by_cases h24:k=2\/k=4
  ·have ht:zcZ k=155:=by unfold zcZ;rw[if_pos h24]
   rw[if_pos h24]
   clear h24 hd
   go_enter (zfx func131),ntmps131
   go_wp2_with fail
   refine(zcE _ _).mono ?_
   rintro e w' ⟨rfl,rfl⟩
   go_wp2_with fail
   refine(zgH k _ ht _).mono ?_
   rintro e w1 ⟨rfl,hb⟩
   go_wp2_with fail
   skip
   refine(zj5 d h0 h3 _).mono ?_
   rintro e w' ⟨rfl,rfl⟩
   go_wp2_with fail
   go_ret
   exact⟨rfl,by first|exact hb|exact hb.drew⟩
  ·rw[if_neg h24]
   by_cases h35:k=3\/k=5
   ·have ht:zcZ k=156:=by unfold zcZ;rw[if_neg h24,if_pos h35]
    rw[if_pos h35]
    clear h24 h35 hd
    go_enter (zfx func131),ntmps131
    go_wp2_with fail
    refine(zcE _ _).mono ?_
    rintro e w' ⟨rfl,rfl⟩
    go_wp2_with fail
    refine(zgH k _ ht _).mono ?_
    rintro e w1 ⟨rfl,hb⟩
    go_wp2_with fail
    skip
    refine(zmq d h0 h3 _).mono ?_
    rintro e w' ⟨rfl,rfl⟩
    go_wp2_with fail
    go_ret
    exact⟨rfl,by first|exact hb|exact hb.drew⟩
   ·have ht:zcZ k=154:=by unfold zcZ;rw[if_neg h24,if_neg h35]
    rw[if_neg h35]
    clear h24 h35 hd
    go_enter (zfx func131),ntmps131
    go_wp2_with fail
    refine(zcE _ _).mono ?_
    rintro e w' ⟨rfl,rfl⟩
    go_wp2_with fail
    refine(zgH k _ ht _).mono ?_
    rintro e w1 ⟨rfl,hb⟩
    go_wp2_with fail
    skip
    refine(zjP d _).mono ?_
    rintro e w' ⟨rfl,rfl⟩
    go_wp2_with fail
    go_ret
    exact⟨rfl,by first|exact hb|exact hb.drew⟩
theorem zdq(k d:Int)(w:World) :
  Calls (SqG.prog aLt) 123 #[J k,J d] w fun e w'=>e=.returned (J (zaS k d))/\w'=w:=by
 by_cases hd:d<0\/3<d
 ·rw[zjU k d hd]
  have hi:inB d 0 3=false:=by simp[inB];omega
  clear hd
  go_enter (zfx func123),ntmps123
  go_wp2_with (go_at_call 61;refine(zbc _ _ _ _).mono ?_;rintro e w' ⟨rfl,rfl⟩)
  go_ret
  exact⟨rfl,rfl⟩
 ·have h0:0<=d:=qg
  have h3:d<=3:=qg
  have hi:inB d 0 3=true:=by simp[inB,h0,h3]
  rw[zdL k d h0 h3]
  by_cases h24:k=2\/k=4
  ·rw[if_pos h24]
   clear hd hi
   rcases h24 with rfl|rfl
   all_goals
    rcases (show d=0\/d=1\/d=2\/d=3 by omega) with rfl|rfl|rfl|rfl
    all_goals
     clear h0 h3
     go_enter (zfx func123),ntmps123
     go_wp2_with (first|(go_at_call 61;go_enter (zfx func61),ntmps61)|fail)
     go_ret
     exact⟨rfl,rfl⟩
  ·rw[if_neg h24]
   by_cases h35:k=3\/k=5
   ·rw[if_pos h35]
    clear hd hi h24
    rcases h35 with rfl|rfl
    all_goals
     rcases (show d=0\/d=1\/d=2\/d=3 by omega) with rfl|rfl|rfl|rfl
     all_goals
      clear h0 h3
      go_enter (zfx func123),ntmps123
      go_wp2_with (first|(go_at_call 61;go_enter (zfx func61),ntmps61)|fail)
      go_ret
      exact⟨rfl,rfl⟩
   ·rw[if_neg h35]
    have n2:(k == 2)=false:=qn
    have n3:(k == 3)=false:=qn
    have n4:(k == 4)=false:=qn
    have n5:(k == 5)=false:=qn
    clear hd h24 h35
    go_enter (zfx func123),ntmps123
    go_wp2_with (go_at_call 61;refine(zbc _ _ _ _).mono ?_;rintro e w' ⟨rfl,rfl⟩)
    go_ret
    exact⟨rfl,rfl⟩
def kd(cs:Lp)(x:Int):Int:=(cs.getD x.toNat (0,0)).1
abbrev Tr:=Le × Le
def za8(a b:Tr):Tr:=(a.1++b.1,a.2++b.2)
def zdA(kind wh:Int)(wt:Nat):Tr:=([],if wt=0 then [] else [(kind,wh,(wt:Int))])
def lvT(wd:Int)(cs:Lp)(go:Int->Int->Nat->Tr)(x e:Int)(h:Nat):Tr :=
 if h=0 then ([],[]) else if (zbR wd cs x e).2.2=true then go (zbR wd cs x e).1 e h else zdA 0 (zcR wd cs x e) h
def zbg(wd:Int)(cs:Lp)(go:Int->Int->Nat->Tr)(x d:Int)(wt:Nat):Tr :=
 if kd cs x=1 then zdA 1 x wt else if kd cs x=7 then zdA 2 x wt
 else if kd cs x=6 then za8 (zdA 3 x (wt - wt / 2)) (lvT wd cs go x d (wt / 2))
 else if kd cs x=4\/kd cs x=5 then za8 (zdA 3 x (wt - 2 * (wt / 2))) (za8 (lvT wd cs go x d (wt / 2)) (lvT wd cs go x (zaS (kd cs x) d) (wt / 2)))
 else lvT wd cs go x (zaS (kd cs x) d) wt
def zaI(wd:Int)(cs:Lp):Nat->Int->Int->Nat->Tr
 | 0=>fun _ _ _=>([],[])
 | f+1=>fun x d wt=>if wt=0 then ([],[]) else za8 ([(x,d,(wt:Int))],[]) (zbg wd cs (zaI wd cs f) x d wt)
def zgb(k:Int):Prop:=k≠1/\k≠7/\k≠6/\k≠4/\k≠5
def lvE(wd:Int)(cs:Lp)(go:Int->Int->Np)(x e:Int)(h:Nat):Prop:=h=0\/(zbR wd cs x e).2.2=false\/go (zbR wd cs x e).1 e h
def zax(wd:Int)(cs:Lp):Nat->Int->Int->Np
 | 0=>fun _ _ wt=>wt=0
 | f+1=>fun x d wt=>wt=0\/(kd cs x=1\/kd cs x=7)\/(kd cs x=6/\lvE wd cs (zax wd cs f) x d (wt / 2)) \/
   ((kd cs x=4\/kd cs x=5)/\lvE wd cs (zax wd cs f) x d (wt / 2)/\lvE wd cs (zax wd cs f) x (zaS (kd cs x) d) (wt / 2))\/(zgb (kd cs x)/\lvE wd cs (zax wd cs f) x (zaS (kd cs x) d) wt)
theorem zek{go go':Int->Int->Np}(hm:∀ x d wt,go x d wt->go' x d wt){e:Int}{h:Nat}(q:lvE wd cs go x e h):lvE wd cs go' x e h:=by
 rcases q with q|q|q
 ·exact Or.inl q
 ·exact Or.inr (Or.inl q)
 ·exact Or.inr (Or.inr (hm _ _ _ q))
theorem zfK(wd:Int)(cs:Lp):∀ f x d wt,zax wd cs f x d wt->zax wd cs (f+1) x d wt:=by
 intro f
 induction f with
 | zero=>intro x d wt h;exact Or.inl h
 | succ f ih =>
  intro x d wt h
  rcases h with h|h|⟨h1,h2⟩|⟨h1,h2,h3⟩|⟨h1,h2⟩
  ·exact Or.inl h
  ·exact Or.inr (Or.inl h)
  ·exact Or.inr (Or.inr (Or.inl ⟨h1,zek ih h2⟩))
  ·exact Or.inr (Or.inr (Or.inr (Or.inl ⟨h1,zek ih h2,zek ih h3⟩)))
  ·exact Or.inr (Or.inr (Or.inr (Or.inr ⟨h1,zek ih h2⟩)))
theorem zkb(wd:Int)(cs:Lp)(f m:Nat)(x d:Int)(wt:Nat)(h:zax wd cs f x d wt):zax wd cs (f+m) x d wt:=by
 induction m with
 | zero=>exact h
 | succ m ih=>exact zfK wd cs (f+m) x d wt ih
def stops(wd:Int)(cs:Lp):Nat->Int->Int->Prop
 | 0=>fun _ _=>False
 | j+1=>fun x d=>¬ zgb (kd cs x)\/(zbR wd cs x (zaS (kd cs x) d)).2.2=false\/stops wd cs j (zbR wd cs x (zaS (kd cs x) d)).1 (zaS (kd cs x) d)
def fresh(wd:Int)(cs:Lp)(x d:Int):Prop:=(zbR wd cs x ((d+2) % 4)).2.2=false\/¬ zgb (kd cs (zbR wd cs x ((d+2) % 4)).1)
theorem zsZ:∀(n:Nat) (f:Nat->Nat),(∀ i,i<n+1->f i<n)->∃ i j,i<j/\j<n+1/\f i=f j:=by
 intro n
 induction n with
 | zero=>intro f h;have:=h 0 qg;omega
 | succ n ih =>
  intro f h
  by_cases c:∃ i,i<n+1/\f i=f (n+1)
  ·obtain⟨i,hi,e⟩:=c
   exact⟨i,n+1,hi,qg,e⟩
  ·have c':∀ i,i<n+1->f i≠f (n+1):=fun i hi e=>c ⟨i,hi,e⟩
   obtain⟨i,j,h0,hj,e⟩:=ih (fun i=>if f i=n then f (n+1) else f i) (by
    intro i hi
    have h1:=h i qg
    have h2:=h (n+1) qg
    have h3:=c' i hi
    show (if f i=n then f (n+1) else f i)<n
    split <;> omega)
   refine⟨i,j,h0,qg,?_⟩
   have h4:=c' i qg
   have h5:=c' j hj
   split at e <;> split at e <;> omega
theorem zd2(hd:0<=d/\d<=3):0<=zaS k d/\zaS k d<=3:=by
 rw[zdL k d hd.1 hd.2]
 unfold zjH
 split <;> (try split) <;> omega
theorem zp2{e:Int}(hd:0<=d/\d<=3)(he:0<=e/\e<=3)(h:zaS k d=zaS k e):d=e:=by
 rw[zdL k d hd.1 hd.2,zdL k e he.1 he.2] at h
 unfold zjH at h
 split at h
 ·split at h <;> split at h <;> omega
 ·split at h <;> omega
def okS(cs:Lp)(s:Int × Int):Prop:=(0<=s.1/\s.1<(cs.length:Int))/\(0<=s.2/\s.2<=3)
def nxS(wd:Int)(cs:Lp)(s:Int × Int):Int × Int:=((zbR wd cs s.1 (zaS (kd cs s.1) s.2)).1,zaS (kd cs s.1) s.2)
def znQ(wd:Int)(cs:Lp)(s:Int × Int):Prop:=zgb (kd cs s.1)/\(zbR wd cs s.1 (zaS (kd cs s.1) s.2)).2.2=true
def itS(wd:Int)(cs:Lp)(s:Int × Int):Nat->Int × Int
 | 0=>s
 | i+1=>nxS wd cs (itS wd cs s i)
theorem zbz{e:Int}(h:(zbR wd cs x e).2.2=true):(0<=(zbR wd cs x e).1/\(zbR wd cs x e).1<(cs.length:Int))/\(0<=e/\e<=3)/\zbR wd cs (zbR wd cs x e).1 ((e+2) % 4)=(x,(e+2) % 4,true):=by
 obtain⟨x2,d2,b2,ev⟩:∃ x2 d2 b2,zbR wd cs x e=(x2,d2,b2):=⟨_,_,_,rfl⟩
 rw[ev] at h ⊢
 simp only at h ⊢
 subst h
 obtain⟨e2,he,_,_,_,hb,_⟩:=zlS ev
 subst e2
 exact⟨(zjw hb).2.1,he,hb⟩
theorem zut(h:znQ wd cs s):okS cs (nxS wd cs s):=by
 obtain⟨h1,h2,_⟩:=zbz h.2
 exact⟨h1,h2⟩
theorem ztI(hs:okS cs s)(ht:okS cs t)(ls:znQ wd cs s)(lt:znQ wd cs t)(h:nxS wd cs s=nxS wd cs t):s=t:=by
 unfold nxS at h
 simp only[Prod.mk.injEq] at h
 have b1:=(zbz ls.2).2.2
 have b2:=(zbz lt.2).2.2
 rw[h.1,h.2,b2] at b1
 simp only[Prod.mk.injEq] at b1
 have e1:t.1=s.1:=b1.1
 have e2:=h.2
 rw[e1] at e2
 exact Prod.ext e1.symm (zp2 hs.2 ht.2 e2)
theorem zrc(h:znQ wd cs t)(e:nxS wd cs t=s):¬ fresh wd cs s.1 s.2:=by
 have b:=(zbz h.2).2.2
 subst e
 rintro (q|q)
 ·rw[show (zbR wd cs (nxS wd cs t).1 (((nxS wd cs t).2+2) % 4))=_ from b] at q
  simp at q
 ·rw[show (zbR wd cs (nxS wd cs t).1 (((nxS wd cs t).2+2) % 4))=_ from b] at q
  exact q h.1
theorem zsM :∀(j:Nat) (s:Int × Int),¬ stops wd cs j s.1 s.2->∀ i,i<j->znQ wd cs (itS wd cs s i):=by
 have key:∀(i j:Nat) (s:Int × Int),¬ stops wd cs j s.1 s.2->i<=j->¬ stops wd cs (j - i) (itS wd cs s i).1 (itS wd cs s i).2:=by
  intro i
  induction i with
  | zero=>intro j s h _;exact h
  | succ i ih =>
   intro j s h hi
   have q:=ih j s h qg
   rw[show j - i=(j - (i+1))+1 by omega] at q
   intro q2
   exact q (Or.inr (Or.inr q2))
 intro j s h i hi
 have q:=key i j s h qg
 rw[show j - i=(j - i - 1)+1 by omega] at q
 refine⟨Classical.byContradiction fun n=>q (Or.inl n),?_⟩
 by_cases c:(zbR wd cs (itS wd cs s i).1 (zaS (kd cs (itS wd cs s i).1) (itS wd cs s i).2)).2.2=true
 ·exact c
 ·exact absurd (Or.inr (Or.inl (by simpa using c))) q
theorem zkk(hn:cs.length<=25)(hx:0<=x/\x<(cs.length:Int))(hd:0<=d/\d<=3)(hf:fresh wd cs x d):stops wd cs 101 x d:=by
 refine Classical.byContradiction fun h1=>?_
 have ha:=zsM 101 (x,d) h1
 have h0:∀ i,i<101->okS cs (itS wd cs (x,d) i):=by
  intro i
  cases i with
  | zero=>intro _;exact⟨hx,hd⟩
  | succ i=>intro hi;exact zut (ha i qg)
 have h2:∀ i m,i<m->m<101->itS wd cs (x,d) i≠itS wd cs (x,d) m:=by
  intro i
  induction i with
  | zero =>
   intro m hm h3 e
   obtain⟨p,rfl⟩:∃ p,m=p+1:=⟨m - 1,qg⟩
   exact zrc (s:=(x,d)) (ha p qg) e.symm hf
  | succ i ih =>
   intro m hm h3 e
   obtain⟨p,rfl⟩:∃ p,m=p+1:=⟨m - 1,qg⟩
   exact ih p qg qg (ztI (h0 i qg) (h0 p qg) (ha i qg) (ha p qg) e)
 obtain⟨i,j,h4,hj,e⟩:=zsZ 100 (fun i=>(4 * (itS wd cs (x,d) i).1+(itS wd cs (x,d) i).2).toNat) (by
  intro i hi
  obtain⟨q1,q2⟩:=h0 i qg
  show (4 * (itS wd cs (x,d) i).1+(itS wd cs (x,d) i).2).toNat<100
  omega)
 obtain⟨q1,q2⟩:=h0 i qg
 obtain⟨q3,q4⟩:=h0 j qg
 exact h2 i j h4 qg (Prod.ext qg qg)
theorem zmB{e:Int}(hk:¬ zgb (kd cs x))(h:(zbR wd cs x e).2.2=true):fresh wd cs (zbR wd cs x e).1 e:=by
 right
 rw[(zbz h).2.2]
 exact hk
theorem ziQ(hn:cs.length<=25):∀(l:Nat) (x d:Int) (wt:Nat),wt<2 ^ l->(0<=x/\x<(cs.length:Int))->(0<=d/\d<=3)->fresh wd cs x d->zax wd cs (101 * l) x d wt:=by
 intro l
 induction l with
 | zero =>
  intro x d wt h _ _ _
  have:wt=0:=by simp at h;exact h
  exact this
 | succ l ih =>
  have half:∀(j:Nat) (x e:Int) (wt:Nat),wt<2 ^ (l+1)->¬ zgb (kd cs x)->lvE wd cs (zax wd cs (101 * l+j)) x e (wt / 2):=by
   intro j x e wt hw hk
   by_cases c:(zbR wd cs x e).2.2=true
   ·obtain⟨r1,r2,_⟩:=zbz c
    have h0:wt / 2<2 ^ l:=by rw[Nat.pow_succ] at hw;omega
    exact Or.inr (Or.inr (zkb wd cs (101 * l) j _ _ _ (ih _ e (wt / 2) h0 r1 r2 (zmB hk c))))
   ·exact Or.inr (Or.inl (by simpa using c))
  have path:∀(j:Nat) (x d:Int) (wt:Nat),wt<2 ^ (l+1)->stops wd cs j x d->zax wd cs (101 * l+j) x d wt:=by
   intro j
   induction j with
   | zero=>intro x d wt _ h;exact absurd h (fun q=>q)
   | succ j ihj =>
    intro x d wt hw hs
    show zax wd cs (101 * l+j+1) x d wt
    by_cases h1:kd cs x=1\/kd cs x=7
    ·exact Or.inr (Or.inl h1)
    by_cases h6:kd cs x=6
    ·exact Or.inr (Or.inr (Or.inl ⟨h6,half j x d wt hw (fun q=>q.2.2.1 h6)⟩))
    by_cases h4:kd cs x=4\/kd cs x=5
    ·have hk:¬ zgb (kd cs x):=fun q=>by rcases h4 with h|h;exact q.2.2.2.1 h;exact q.2.2.2.2 h
     exact Or.inr (Or.inr (Or.inr (Or.inl ⟨h4,half j x d wt hw hk,half j x _ wt hw hk⟩)))
    ·have hp:zgb (kd cs x):=⟨fun q=>h1 (Or.inl q),fun q=>h1 (Or.inr q),h6,fun q=>h4 (Or.inl q),fun q=>h4 (Or.inr q)⟩
     refine Or.inr (Or.inr (Or.inr (Or.inr ⟨hp,?_⟩)))
     rcases hs with q|q|q
     ·exact absurd hp q
     ·exact Or.inr (Or.inl q)
     ·exact Or.inr (Or.inr (ihj _ _ _ hw q))
  intro x d wt hw hx hd hf
  exact path 101 x d wt hw (zkk hn hx hd hf)
theorem zdb(h:zbU wd cs k=(x,d,true)):((0<=x/\x<(cs.length:Int))/\(0<=d/\d<=3))/\zax wd cs 707 x d 64:=by
 obtain⟨hd,hr,_,_⟩:=znV h
 have c:okG wd cs=true/\0<=k/\k<zbV wd cs:=by
  unfold zbU at h
  split at h
  ·assumption
  ·simp at h
 obtain⟨W,H,S⟩:=zc3 c.1
 have hk:=c.2
 rw[S.em] at hk
 obtain⟨K,rfl⟩:=Int.eq_ofNat_of_zero_le hk.1
 have hn:cs.length<=25:=by rw[S.el];exact Nat.le_trans (Nat.mul_le_mul S.hW.2 S.hH.2) qg
 have hx:0<=x/\x<(cs.length:Int):=by
  rw[zdC S K qg] at h
  simp only[Prod.mk.injEq] at h
  have:=(zhj W H K S.hW S.hH qg x d (Prod.ext h.1 h.2.1)).1
  rw[S.el]
  simpa using this
 exact⟨⟨hx,hd⟩,ziQ hn 7 x d 64 qg hx hd (Or.inl (by rw[hr]))⟩
theorem zi2:((SqG.prog aLt).info? 122).map (fun i=>(i.zero,i.size,i.bytes))=some (some (.agg #[J 0,J 0,J 0]),3,24):=qh
theorem zoH:((SqG.prog aLt).info? 119).map (fun i=>(i.zero,i.size,i.bytes))=some (some (.agg #[J 0,J 0,J 0]),3,24):=qh
def flat3(xs:Le):List Value:=xs.flatMap fun t=>[J t.1,J t.2.1,J t.2.2]
theorem zcg(a b:Le):flat3 (a++b)=flat3 a++flat3 b:=by simp[flat3]
theorem zsk{b i j:Nat}{u:Value}(h0:i≠j)(h:w.cell? (O b i)=some v):(w.setCell (O b j) u).cell? (O b i)=some v:=by
 have q:((O b j):Addr)≠(O b i):=fun e=>h0 (Addr.mk.inj e).2.1.symm
 rw[World.cell?_setCell_other _ _ _ _ q]
 exact h
structure Wk(w:World)(B pb:Nat)(wd:Int)(a:Od)(c:Nat)(cs:Lp)(v e:Value)(T:Tr):Prop where
 c0:w.cell? (O pb 0)=some (J wd)
 c1:w.cell? (O pb 1)=some (.slice a cs.length c)
 c2:w.cell? (O pb 2)=some v
 c3:w.cell? (O pb 3)=some e
 f2:w.frozen? (O pb 2)=false
 f3:w.frozen? (O pb 3)=false
 hC:zaf w a cs
 ha:∀ b off,a=some (O b off)->b<B
 ov:w.ownsRow B 122 3 v T.1.length (flat3 T.1)
 oe:w.ownsRow B 119 3 e T.2.length (flat3 T.2)
 hB:B<=pb
 dv:v.ownBlock≠some pb
 de:e.ownBlock≠some pb
 dd:∀ g,v.ownBlock=some g->e.ownBlock≠some g
theorem Wk.lt{T:Tr}(h:Wk w B pb wd a c cs v e T):pb<w.heap.size:=World.block_lt_of_cell? w _ h.c0
theorem Wk.cells{T:Tr}(h:Wk w B pb wd a c cs v e T)(hb:Below B w w'):zaf w' a cs:=by
 have ha:=h.ha
 rcases h.hC with q|⟨b,off,rfl,h1,hc⟩
 ·exact Or.inl q
 ·have h0:=ha b off rfl
  refine Or.inr ⟨b,off,rfl,nll h1 hb.size,fun i hi=>?_⟩
  rw[hb.cell (p:=(O b (off+i * 2))) h0,hb.cell (p:=(O b (off+i * 2+1))) h0]
  exact hc i hi
theorem Wk.below{T:Tr}(h:Wk w B pb wd a c cs v e T)(hb:xE w w'):Wk w' B pb wd a c cs v e T :=
 ⟨zaa hb h.c0,zaa hb h.c1,zaa hb h.c2,zaa hb h.c3,zak hb h.c2 h.f2,zak hb h.c3 h.f3,h.hC.below hb,h.ha,
  h.ov.kept (row:=none) ⟨hb.os,hb.tape,hb.output,hb.size,fun k hk _=>hb.block k hk⟩ (by by_cases q:v.ownBlock=none;exact Or.inl q;exact Or.inr q),
  h.oe.kept (row:=none) ⟨hb.os,hb.tape,hb.output,hb.size,fun k hk _=>hb.block k hk⟩ (by by_cases q:e.ownBlock=none;exact Or.inl q;exact Or.inr q),h.hB,h.dv,h.de,h.dd⟩
theorem Wk.visit{T:Tr}{g6 k6:Nat}{y z:Int}(h:Wk w B pb wd a c cs v e T)(hO:w6.ownsRow B 122 3 (.slice (xA g6) (T.1.length+1) k6) (T.1.length+1) (flat3 T.1++[J x,J y,J z]))(hg:(w.alloc o).grownBy w6 v.ownBlock)(h2:v.ownBlock=some g6\/g6=w.heap.size+1) :
  (w6.cell? (O pb 2)=some v/\w6.frozen? (O pb 2)=false)/\Wk (w6.setCell (O pb 2) (.slice (xA g6) (T.1.length+1) k6)) B pb wd a c cs (.slice (xA g6) (T.1.length+1) k6) e (T.1++[(x,y,z)],T.2)/\Below B w (w6.setCell (O pb 2) (.slice (xA g6) (T.1.length+1) k6)):=by
 have h9:pb<w.heap.size:=World.block_lt_of_cell? w _ h.c0
 have h0:xE w (w.alloc o):=(Below.refl _ _).alloc (Nat.le_refl _) o
 have hp:some pb≠v.ownBlock:=fun q=>h.dv q.symm
 have hz:=hg.size
 simp at hz
 have h3:g6≠pb:=by
  rcases h2 with q|q
  ·intro q2;subst q2;exact h.dv q
  ·omega
 have cell:∀ j u,w.cell? (O pb j)=some u->w6.cell? (O pb j)=some u:=fun j u q=>hg.cell (zaa h0 q) hp
 have froz:∀ j,w.frozen? (O pb j)=false->w6.frozen? (O pb j)=false:=fun j q=>by
  rw[hg.frozen_far (O pb j) qn hp,h0.frozen (p:=(O pb j)) h9];exact q
 have h4:Below B w w6:=by
  refine⟨hg.os.trans h0.os,hg.tape.trans h0.tape,hg.output.trans h0.output,qg,fun k hk=>?_⟩
  have hB:=h.hB
  rw[hg.block k qn (fun q=>by have:=(h.ov.lt k q.symm).1;omega)]
  exact h0.block k qg
 refine⟨⟨cell _ _ h.c2,froz _ h.f2⟩,?_,h4.setCell (p:=(O pb 2)) h.hB _⟩
 have h6:w6.ownsRow B 119 3 e T.2.length (flat3 T.2):=(h.oe.alloc o).kept hg (by
  by_cases q:e.ownBlock=none
  ·exact Or.inl q
  ·right;intro q2;obtain⟨g,h5⟩:∃ g,e.ownBlock=some g:=Option.ne_none_iff_exists'.1 q
   exact h.dd g (q2 ▸ h5) h5)
 have h7:(T.1++[(x,y,z)]).length=T.1.length+1:=qm
 have he:flat3 (T.1++[(x,y,z)])=flat3 T.1++[J x,J y,J z]:=by rw[zcg];rfl
 have h8:(w6.setCell (O pb 2) (.slice (xA g6) (T.1.length+1) k6)).ownsRow B 122 3 (.slice (xA g6) (T.1.length+1) k6) (T.1++[(x,y,z)]).length (flat3 (T.1++[(x,y,z)])):=by
  rw[h7,he]
  exact ownsRow_setCell_other hO (by simp[Value.ownBlock,h3]) _
 have h1:=ownsRow_setCell_other h6 (a:=(O pb 2)) h.de (.slice (xA g6) (T.1.length+1) k6)
 have hf:zaf w6 a cs:=h.cells h4
 have hj:∀ g,(Value.slice (xA g6) (T.1.length+1) k6).ownBlock=some g->e.ownBlock≠some g:=by
  intro g q
  simp only[Value.ownBlock,Option.some.injEq] at q
  subst q
  intro q2
  rcases h2 with q3|q3
  ·exact h.dd g6 q3 q2
  ·have:=(h.oe.lt g6 q2).2;omega
 exact⟨zsk qj (cell _ _ h.c0),zsk qj (cell _ _ h.c1),World.cell?_setCell_same _ _ _ (by rw[cell _ _ h.c2]),zsk qj (cell _ _ h.c3),by simpa using froz _ h.f2,by simpa using froz _ h.f3,
  hf.set (fun b off q=>by have:=h.ha b off q;have:=h.hB;omega) _,h.ha,h8,h1,h.hB,by simp[Value.ownBlock,h3],h.de,hj⟩
theorem Wk.ends{T:Tr}{g6 k6:Nat}{y z:Int}(h:Wk w B pb wd a c cs v e T)(hO:w6.ownsRow B 119 3 (.slice (xA g6) (T.2.length+1) k6) (T.2.length+1) (flat3 T.2++[J x,J y,J z]))(hg:(w.alloc o).grownBy w6 e.ownBlock)(h2:e.ownBlock=some g6\/g6=w.heap.size+1) :
  (w6.cell? (O pb 3)=some e/\w6.frozen? (O pb 3)=false)/\Wk (w6.setCell (O pb 3) (.slice (xA g6) (T.2.length+1) k6)) B pb wd a c cs v (.slice (xA g6) (T.2.length+1) k6) (T.1,T.2++[(x,y,z)])/\Below B w (w6.setCell (O pb 3) (.slice (xA g6) (T.2.length+1) k6)):=by
 have h9:pb<w.heap.size:=World.block_lt_of_cell? w _ h.c0
 have h0:xE w (w.alloc o):=(Below.refl _ _).alloc (Nat.le_refl _) o
 have hp:some pb≠e.ownBlock:=fun q=>h.de q.symm
 have hz:=hg.size
 simp at hz
 have h3:g6≠pb:=by
  rcases h2 with q|q
  ·intro q2;subst q2;exact h.de q
  ·omega
 have cell:∀ j u,w.cell? (O pb j)=some u->w6.cell? (O pb j)=some u:=fun j u q=>hg.cell (zaa h0 q) hp
 have froz:∀ j,w.frozen? (O pb j)=false->w6.frozen? (O pb j)=false:=fun j q=>by
  rw[hg.frozen_far (O pb j) qn hp,h0.frozen (p:=(O pb j)) h9];exact q
 have h4:Below B w w6:=by
  refine⟨hg.os.trans h0.os,hg.tape.trans h0.tape,hg.output.trans h0.output,qg,fun k hk=>?_⟩
  have hB:=h.hB
  rw[hg.block k qn (fun q=>by have:=(h.oe.lt k q.symm).1;omega)]
  exact h0.block k qg
 refine⟨⟨cell _ _ h.c3,froz _ h.f3⟩,?_,h4.setCell (p:=(O pb 3)) h.hB _⟩
 have h6:w6.ownsRow B 122 3 v T.1.length (flat3 T.1):=(h.ov.alloc o).kept hg (by
  by_cases q:v.ownBlock=none
  ·exact Or.inl q
  ·right;intro q2;obtain⟨g,h5⟩:∃ g,v.ownBlock=some g:=Option.ne_none_iff_exists'.1 q
   exact h.dd g h5 (q2 ▸ h5))
 have h7:(T.2++[(x,y,z)]).length=T.2.length+1:=qm
 have he:flat3 (T.2++[(x,y,z)])=flat3 T.2++[J x,J y,J z]:=by rw[zcg];rfl
 have h8:(w6.setCell (O pb 3) (.slice (xA g6) (T.2.length+1) k6)).ownsRow B 119 3 (.slice (xA g6) (T.2.length+1) k6) (T.2++[(x,y,z)]).length (flat3 (T.2++[(x,y,z)])):=by
  rw[h7,he]
  exact ownsRow_setCell_other hO (by simp[Value.ownBlock,h3]) _
 have h1:=ownsRow_setCell_other h6 (a:=(O pb 3)) h.dv (.slice (xA g6) (T.2.length+1) k6)
 have hf:zaf w6 a cs:=h.cells h4
 have hj:∀ g,(Value.slice (xA g6) (T.2.length+1) k6).ownBlock=some g->v.ownBlock≠some g:=by
  intro g q
  simp only[Value.ownBlock,Option.some.injEq] at q
  subst q
  intro q2
  rcases h2 with q3|q3
  ·exact h.dd g6 q2 q3
  ·have:=(h.ov.lt g6 q2).2;omega
 exact⟨zsk qj (cell _ _ h.c0),zsk qj (cell _ _ h.c1),zsk qj (cell _ _ h.c2),World.cell?_setCell_same _ _ _ (by rw[cell _ _ h.c3]),by simpa using froz _ h.f2,by simpa using froz _ h.f3,
  hf.set (fun b off q=>by have:=h.ha b off q;have:=h.hB;omega) _,h.ha,h1,h8,h.hB,h.dv,by simp[Value.ownBlock,h3],fun g q q2=>hj g q2 q⟩
theorem zbX(a:Tr):za8 a ([],[])=a:=by simp[za8]
theorem zb3(a b c:Tr):za8 (za8 a b) c=za8 a (za8 b c):=by simp[za8]
theorem zlG(ih:∀ x d wt,(zaI wd cs f x d wt).1.length<=f * wt/\(zaI wd cs f x d wt).2.length<=wt)(x e:Int)(h:Nat) :
  (lvT wd cs (zaI wd cs f) x e h).1.length<=f * h/\(lvT wd cs (zaI wd cs f) x e h).2.length<=h:=by
 unfold lvT
 by_cases h0:h=0
 ·rw[if_pos h0];simp
 ·rw[if_neg h0]
  split
  ·exact ih _ _ _
  ·simp[zdA,h0];omega
theorem zh4(wd:Int)(cs:Lp):∀ f x d wt,(zaI wd cs f x d wt).1.length<=f * wt/\(zaI wd cs f x d wt).2.length<=wt:=by
 intro f
 induction f with
 | zero=>intro x d wt;simp[zaI]
 | succ f ih =>
  intro x d wt
  simp only[zaI]
  by_cases h0:wt=0
  ·rw[if_pos h0];simp
  ·rw[if_neg h0]
   have e1:(f+1) * wt=f * wt+wt:=Nat.succ_mul f wt
   have hh:f * (wt / 2)+f * (wt / 2)<=f * wt:=by rw[<- Nat.mul_add];exact Nat.mul_le_mul_left f qg
   have l1:=zlG ih x d (wt / 2)
   have l2:=zlG ih x (zaS (kd cs x) d) (wt / 2)
   have l3:=zlG ih x (zaS (kd cs x) d) wt
   unfold zbg
   repeat' split
   all_goals (simp only[za8,zdA,List.length_append,List.length_cons,List.length_nil,List.nil_append];(repeat' split) <;> (try simp only[List.length_cons,List.length_nil]) <;> omega)
theorem zfJ{T:Tr}(h:Wk w B pb wd a c cs v e T)(kind wh:Int)(wt:Nat)(hw:wt<=64)(hl:T.2.length<=1000000) :
  Calls (SqG.prog aLt) 121 #[.pointer (xA pb),J kind,J wh,J (wt:Int)] w fun r w'=>r=.returned (.tuple #[])/\(∃ v2 e2,Wk w' B pb wd a c cs v2 e2 (za8 T (zdA kind wh wt)))/\Below B w w':=by
 obtain⟨i0,hi,iz0,iz1,iz2⟩:=info_parts (zoH (aLt:=aLt))
 have h7:=h.lt
 have hB:=h.hB
 by_cases h0:wt=0
 ·subst h0
  have hT:za8 T (zdA kind wh 0)=T:=by simp[zdA,za8]
  rw[hT]
  clear hT
  go_enter (zfx func121),ntmps121
  go_wp2
  exact bodyPost_end (v:=.tuple #[]) (by simp[results,results121,go_sem]) rfl ⟨rfl,⟨v,e,h⟩,Below.refl _ _⟩
 ·have hT:za8 T (zdA kind wh wt)=(T.1,T.2++[(kind,wh,(wt:Int))]):=by simp[zdA,za8,h0]
  rw[hT]
  clear hT
  have c3:=h.c3
  have hp:(0:Int)<(wt:Int):=qg
  have c3':(w.alloc (.cells #[J kind,J wh,J (wt:Int)] 119)).cell? (O pb 3)=some e:=zaa ((Below.refl _ _).alloc (Nat.le_refl _) _) c3
  go_enter (zfx func121),ntmps121
  go_wp2_with (at_builtin;refine wpList_append_lies _ rfl _ _ _ rfl B 119 i0 (.agg #[J 0,J 0,J 0]) 3 24 SqG.underlying109 hi iz0 iz1 iz2 rfl qg e T.2.length (flat3 T.2) rfl (h.oe.alloc _) (xC w 0) 1 1 [J kind,J wh,J (wt:Int)] rfl rfl (World.news_of_block (cs:=#[J kind,J wh,J (wt:Int)]) (t:=119) (fr:=(0,0)) (heap_alloc_new w _)) qo qg qs qg qn (w.heap.size+1) qm ?_)
  intro g6 k6 w6 h2 h3 h1 h6
  obtain⟨⟨q3,qf⟩,h4,h5⟩:=h.ends h2 h3 h1
  clear c3 c3' h2 h3 h1
  go_wp2
  exact bodyPost_end (v:=.tuple #[]) (by simp[results,results121,go_sem]) rfl ⟨rfl,⟨v,_,h4⟩,h5⟩
def ziz(f W:Nat)(cs:Lp)(a:Od)(c B pb:Nat):Prop :=
 ∀(w:World) (v e:Value) (T:Tr) (x d:Int) (wt:Nat),Wk w B pb (W:Int) a c cs v e T->okS cs (x,d)->wt<=64->zax (W:Int) cs f x d wt->T.1.length+f * wt<=1000000->T.2.length+wt<=1000000 ->
  Calls (SqG.prog aLt) 93 #[.pointer (xA pb),J x,J d,J (wt:Int)] w fun r w'=>r=.returned (.tuple #[])/\(∃ v2 e2,Wk w' B pb (W:Int) a c cs v2 e2 (za8 T (zaI (W:Int) cs f x d wt)))/\Below B w w'
theorem zja{T:Tr}(S:Siz (W:Int) cs W H)(IH:ziz (aLt:=aLt) f W cs a c B pb)(h:Wk w B pb (W:Int) a c cs v e T)(x d:Int)(hs:okS cs (x,d))(wt:Nat)(hk:0<wt)(hw:wt<=64)(hE:lvE (W:Int) cs (zax (W:Int) cs f) x d wt)(h8:T.1.length+f * wt<=1000000)(h9:T.2.length+wt<=1000000) :
  Calls (SqG.prog aLt) 124 #[.pointer (xA pb),J x,J d,J (wt:Int)] w fun r w'=>r=.returned (.tuple #[])/\(∃ v2 e2,Wk w' B pb (W:Int) a c cs v2 e2 (za8 T (lvT (W:Int) cs (zaI (W:Int) cs f) x d wt)))/\Below B w w':=by
 have c0:=h.c0
 have c1:=h.c1
 have hl:=h.lt
 have hp:=h.hB
 obtain⟨x2,d2,b2,ev⟩:∃ x2 d2 b2,zbR (W:Int) cs x d=(x2,d2,b2):=⟨_,_,_,rfl⟩
 obtain⟨W',H',r',c',r2,c2',m,b,R⟩:=zsg (W:Int) cs x d S.ok hs.1 hs.2
 have EV:Hid (zbR (W:Int) cs x d=(x2,d2,b2)):=ev
 obtain⟨L,hL⟩:∃ L,lvT (W:Int) cs (zaI (W:Int) cs f) x d wt=L:=⟨_,rfl⟩
 rw[hL]
 have HT:Hid (L=if b2=true then zaI (W:Int) cs f x2 d wt else zdA 0 (zcR (W:Int) cs x d) wt):=by
  show _=_
  rw[<- hL]
  unfold lvT;rw[if_neg qg,ev]
 have HR:Hid (Ray (W:Int) cs x d W' H' r' c' r2 c2' m b):=R
 have HN:Hid (b2=true->okS cs (x2,d)/\zax (W:Int) cs f x2 d wt):=by
  intro q
  have q1:(zbR (W:Int) cs x d).2.2=true:=by rw[ev];exact q
  have q2:=zbz q1
  rw[ev] at q2
  refine⟨⟨q2.1,q2.2.1⟩,?_⟩
  rcases hE with q3|q3|q3
  ·omega
  ·rw[q1] at q3;cases q3
  ·rw[ev] at q3;exact q3
 clear ev R hL
 go_enter (zfx func124),ntmps124
 go_wp2_with fail
 refine(zmE HR.o a c _).mono ?_
 rintro r w1 ⟨rfl,h0⟩
 rw[EV.o]
 unfold zgO
 have h2:xE w1 (w1.alloc (.cells #[J x2,J d2] 144)):=bel
 have h1:=(h.below h0).below h2
 have h7:Below B w (w1.alloc (.cells #[J x2,J d2] 144)):=zae (h0.mono qg) (by have:=h0.size;omega) h2
 have hq:=h0.size
 have y0:(w1.alloc (.cells #[J x2,J d2] 144)).cell? (xC w1 0)=some (J x2):=ql
 clear c0 c1 h0 h2
 have c0:=h1.c0
 have c1:=h1.c1
 cases b2
 ·obtain⟨o,eo⟩:∃ o,zcR (W:Int) cs x d=o:=⟨_,rfl⟩
  have e1:(cs.length:Int)=(W:Int) * (H:Int):=by rw[S.el];simp
  have HO:Hid (ofN W H x d (2 * (W+H))=o):=by
   show _=_
   rw[<- eo,zfp S x d (by rw[<- e1];exact hs.1) hs.2]
  have HL:Hid (L=zdA 0 o wt):=by
   show _=_
   rw[HT.o,if_neg qm,eo]
  clear eo e1
  go_wp2_with fail
  refine(zqZ W H a cs.length c _ S.hW S.hH S.el x d).mono ?_
  rintro r w3 ⟨rfl,h3⟩
  rw[HO.o]
  have he:=h1.below h3
  have hf:Below B w w3:=h7.trans (h3.mono qn)
  clear h3 c0 c1 y0
  go_wp2_with fail
  refine(zfJ he 0 o wt hw qg).mono ?_
  rintro r w4 ⟨rfl,h4,h5⟩
  have h6:=hf.trans h5
  go_wp2_with fail
  exact bodyPost_end (v:=.tuple #[]) (by simp[results,results124,go_sem]) rfl ⟨rfl,by rw[HL.o];exact h4,h6⟩
 ·have HL:Hid (L=zaI (W:Int) cs f x2 d wt):=by
   show _=_
   rw[HT.o,if_pos rfl]
  obtain⟨hg,hj⟩:=HN.o rfl
  go_wp2_with fail
  refine(IH _ v e T x2 d wt h1 hg hw hj h8 h9).mono ?_
  rintro r w4 ⟨rfl,h4,h5⟩
  have h6:=h7.trans h5
  clear c0 c1 y0
  go_wp2_with fail
  exact bodyPost_ret (v:=.tuple #[]) (by simp[results,results124,go_sem]) rfl ⟨rfl,by rw[HL.o];exact h4,h6⟩
theorem zhW{T:Tr}(S:Siz (W:Int) cs W H)(IH:ziz (aLt:=aLt) f W cs a c B pb)(h:Wk w B pb (W:Int) a c cs v e T)(x d:Int)(hs:okS cs (x,d))(wt:Nat)(hw:wt<=64)(hE:lvE (W:Int) cs (zax (W:Int) cs f) x d wt)(h1:T.1.length+f * wt<=1000000)(h2:T.2.length+wt<=1000000) :
  Calls (SqG.prog aLt) 122 #[.pointer (xA pb),J x,J d,J (wt:Int)] w fun r w'=>r=.returned (.tuple #[])/\(∃ v2 e2,Wk w' B pb (W:Int) a c cs v2 e2 (za8 T (lvT (W:Int) cs (zaI (W:Int) cs f) x d wt)))/\Below B w w':=by
 by_cases h0:wt=0
 ·subst h0
  have hT:za8 T (lvT (W:Int) cs (zaI (W:Int) cs f) x d 0)=T:=by unfold lvT;rw[if_pos rfl];exact zbX T
  rw[hT]
  clear hT
  go_enter (zfx func122),ntmps122
  go_wp2
  exact bodyPost_end (v:=.tuple #[]) (by simp[results,results122,go_sem]) rfl ⟨rfl,⟨v,e,h⟩,Below.refl _ _⟩
 ·have hp:(0:Int)<(wt:Int):=qg
  go_enter (zfx func122),ntmps122
  go_wp2_with fail
  refine(zja S IH h x d hs wt qg hw hE h1 h2).mono ?_
  rintro r w4 ⟨rfl,h3,h4⟩
  go_wp2_with fail
  exact bodyPost_end (v:=.tuple #[]) (by simp[results,results122,go_sem]) rfl ⟨rfl,h3,h4⟩
theorem zbZ(wd:Int)(cs:Lp)(f:Nat)(x d:Int):zaI wd cs f x d 0=([],[]):=by
 cases f with
 | zero=>rfl
 | succ f=>simp[zaI]
theorem zfv(a b:Tr):(za8 a b).1.length=a.1.length+b.1.length/\(za8 a b).2.length=a.2.length+b.2.length:=by simp[za8]
theorem zhK(k x:Int)(wt:Nat):(zdA k x wt).1.length=0/\(zdA k x wt).2.length<=wt/\(zdA k x wt).2.length<=1:=by
 unfold zdA
 by_cases h:wt=0
 ·simp[h]
 ·simp[h];omega
theorem ziM{T:Tr}(h:Wk w B pb (W:Int) a c cs v e T)(x d:Int) :
  Calls (SqG.prog aLt) 93 #[.pointer (xA pb),J x,J d,J ((0:Nat):Int)] w fun r w'=>r=.returned (.tuple #[])/\(∃ v2 e2,Wk w' B pb (W:Int) a c cs v2 e2 (za8 T (zaI (W:Int) cs f x d 0)))/\Below B w w':=by
 rw[zbZ,zbX]
 go_enter (zfx func93),ntmps93
 go_wp2
 exact bodyPost_ret (v:=.tuple #[]) (by simp[results,results93,go_sem]) rfl ⟨rfl,⟨v,e,h⟩,Below.refl _ _⟩
theorem zn6(S:Siz (W:Int) cs W H)(IH:ziz (aLt:=aLt) f W cs a c B pb):ziz (aLt:=aLt) (f+1) W cs a c B pb:=by
 intro w v e T x d wt h hs hw hE hu hN
 by_cases h0:wt=0
 ·subst h0
  exact ziM h x d
 obtain⟨i0,hi,iz0,iz1,iz2⟩:=info_parts (zi2 (aLt:=aLt))
 have hP:=h.lt
 have hQ:=h.hB
 obtain⟨X,rfl⟩:=Int.eq_ofNat_of_zero_le hs.1.1
 have hX:X<cs.length:=by have:=hs.1.2;simp only at this;omega
 have hd:=hs.2
 simp only at hd
 obtain⟨k,hk⟩:∃ k,kd cs (X:Int)=k:=⟨_,rfl⟩
 obtain⟨hf,ehf⟩:∃ hf:Nat,wt / 2=hf:=⟨_,rfl⟩
 obtain⟨m1,em1⟩:∃ m:Nat,wt - hf=m:=⟨_,rfl⟩
 obtain⟨m2,em2⟩:∃ m:Nat,wt - 2 * hf=m:=⟨_,rfl⟩
 obtain⟨tk,etk⟩:∃ t,zaS k d=t:=⟨_,rfl⟩
 have hJ:0<=tk/\tk<=3:=by rw[<- etk];exact zd2 hd
 have q1:(wt:Int).tdiv 2=(hf:Int):=by rw[Int.tdiv_eq_ediv_of_nonneg qg];omega
 have q2:(wt:Int) / 2=(hf:Int):=qg
 have q3:(wt:Int) - (hf:Int)=(m1:Int):=qg
 have q4:(wt:Int) - 2 * (hf:Int)=(m2:Int):=qg
 have h9:hf<=64/\m1<=64/\m2<=1:=qg
 have hy:f * hf+f * hf<=f * wt:=by rw[<- Nat.mul_add];exact Nat.mul_le_mul_left f qg
 have hz:(f+1) * wt=f * wt+wt:=Nat.succ_mul f wt
 obtain⟨L,hL⟩:∃ L,za8 T (zaI (W:Int) cs (f+1) (X:Int) d wt)=L:=⟨_,rfl⟩
 rw[hL]
 have HL0:Hid (L=za8 (T.1++[((X:Int),d,(wt:Int))],T.2) (zbg (W:Int) cs (zaI (W:Int) cs f) (X:Int) d wt)):=by
  show _=_
  rw[<- hL]
  simp only[zaI]
  rw[if_neg h0]
  simp[za8]
 have HE:Hid (zax (W:Int) cs (f+1) (X:Int) d wt):=hE
 have HK:Hid (kd cs (X:Int)=k):=hk
 have HF:Hid (wt / 2=hf):=ehf
 have HM1:Hid (wt - hf=m1):=em1
 have HM2:Hid (wt - 2 * hf=m2):=em2
 have HTK:Hid (zaS k d=tk):=etk
 have HFL:Hid (f * hf+f * hf<=f * wt):=hy
 have HFS:Hid ((f+1) * wt=f * wt+wt):=hz
 have HL1:Hid (T.1.length+(f+1) * wt<=1000000):=hu
 have hA:okS cs ((X:Int),d):=hs
 have hD:okS cs ((X:Int),tk):=⟨hs.1,hJ⟩
 have c2:=h.c2
 have c2':(w.alloc (.cells #[J (X:Int),J d,J (wt:Int)] 122)).cell? (O pb 2)=some v:=zaa ((Below.refl _ _).alloc (Nat.le_refl _) _) c2
 have hT:((wt:Int) == 0)=false:=qn
 have hU:T.1.length<=1000000:=qg
 clear hL hE hk ehf em1 em2 etk hy hz hu hs
 go_enter (zfx func93),ntmps93
 go_wp2_with (at_builtin;refine wpList_append_lies _ rfl _ _ _ rfl B 122 i0 (.agg #[J 0,J 0,J 0]) 3 24 SqG.underlying108 hi iz0 iz1 iz2 rfl qg v T.1.length (flat3 T.1) rfl (h.ov.alloc _) (xC w 0) 1 1 [J (X:Int),J d,J (wt:Int)] rfl rfl (World.news_of_block (cs:=#[J (X:Int),J d,J (wt:Int)]) (t:=122) (fr:=(0,0)) (heap_alloc_new w _)) qo qg qs qg qn (w.heap.size+1) qm ?_)
 intro g6 k6 w6 hF hG hl hM
 obtain⟨⟨r2,rf⟩,h4,h8⟩:=h.visit hF hG hl
 have c1:=h4.c1
 obtain⟨b,off,ea,hK⟩:∃ b off,a=some (O b off)/\(w6.setCell (O pb 2) (.slice (xA g6) (T.1.length+1) k6)).cell? (O b (off+X * 2))=some (J k):=by
  rcases h4.hC with q|⟨b,off,q,_,hc⟩
  ·rw[q] at hX;simp at hX
  ·refine⟨b,off,q,?_⟩
   rw[(hc X hX).1,<- HK.o]
   simp[kd]
 subst ea
 clear c2 c2' hF hG hl
 have hV:(X:Int)<(cs.length:Int):=qg
 by_cases k1:k=1
 ·subst k1
  have HL:Hid (L=za8 (T.1++[((X:Int),d,(wt:Int))],T.2) (zdA 1 (X:Int) wt)):=by
   show _=_
   rw[HL0.o];unfold zbg;rw[HK.o,if_pos rfl]
  go_wp2_with fail
  refine(zfJ h4 1 (X:Int) wt hw (by show T.2.length<=_;omega)).mono ?_
  rintro r w8 ⟨rfl,⟨v_w8,e_w8,h1⟩,h2⟩
  have h3:=h8.trans h2
  go_wp2_with fail
  exact bodyPost_end (v:=.tuple #[]) (by simp[results,results93,go_sem]) rfl ⟨rfl,⟨_,_,by rw[HL.o];exact h1⟩,h3⟩
 by_cases k7:k=7
 ·subst k7
  have HL:Hid (L=za8 (T.1++[((X:Int),d,(wt:Int))],T.2) (zdA 2 (X:Int) wt)):=by
   show _=_
   rw[HL0.o];unfold zbg;rw[HK.o,if_neg qg,if_pos rfl]
  go_wp2_with fail
  refine(zfJ h4 2 (X:Int) wt hw (by show T.2.length<=_;omega)).mono ?_
  rintro r w8 ⟨rfl,⟨v_w8,e_w8,h1⟩,h2⟩
  have h3:=h8.trans h2
  go_wp2_with fail
  exact bodyPost_end (v:=.tuple #[]) (by simp[results,results93,go_sem]) rfl ⟨rfl,⟨_,_,by rw[HL.o];exact h1⟩,h3⟩
 by_cases k6':k=6
 ·subst k6'
  have HL:Hid (L=za8 (T.1++[((X:Int),d,(wt:Int))],T.2) (za8 (zdA 3 (X:Int) m1) (lvT (W:Int) cs (zaI (W:Int) cs f) (X:Int) d hf))):=by
   show _=_
   rw[HL0.o];unfold zbg;rw[HK.o,if_neg qg,if_neg qg,if_pos rfl,HF.o,HM1.o]
  have hq:lvE (W:Int) cs (zax (W:Int) cs f) (X:Int) d hf:=by
   rcases HE.o with q|q|⟨_,q⟩|⟨q,_⟩|⟨q,_⟩
   ·omega
   ·rw[HK.o] at q;omega
   ·rw[HF.o] at q;exact q
   ·rw[HK.o] at q;omega
   ·rw[HK.o] at q;exact absurd rfl q.2.2.1
  have z1:=zhK 3 (X:Int) m1
  have z2:=zfv (T.1++[((X:Int),d,(wt:Int))],T.2) (zdA 3 (X:Int) m1)
  simp only[List.length_append,List.length_cons,List.length_nil] at z2
  have y1:=HFL.o
  have y2:=HFS.o
  have y3:=HL1.o
  clear y1 y2 y3 z1 z2
  go_wp2_with fail
  refine(zfJ h4 3 (X:Int) m1 h9.2.1 (by show T.2.length<=_;omega)).mono ?_
  rintro r w8 ⟨rfl,⟨v_w8,e_w8,h1⟩,h2⟩
  have h3:=h8.trans h2
  have z1:=zhK 3 (X:Int) m1
  have z2:=zfv (T.1++[((X:Int),d,(wt:Int))],T.2) (zdA 3 (X:Int) m1)
  simp only[List.length_append,List.length_cons,List.length_nil] at z2
  have y1:=HFL.o
  have y2:=HFS.o
  have y3:=HL1.o
  go_wp2_with fail
  refine(zhW S IH h1 (X:Int) d hA hf h9.1 hq qg (by have:=HM1.o;omega)).mono ?_
  rintro r w9 ⟨rfl,⟨v_w9,e_w9,h5⟩,h6⟩
  have h7:=h3.trans h6
  go_wp2_with fail
  exact bodyPost_end (v:=.tuple #[]) (by simp[results,results93,go_sem]) rfl ⟨rfl,⟨_,_,by rw[HL.o,<- zb3];exact h5⟩,h7⟩
 by_cases k45:k=4\/k=5
 ·have HL:Hid (L=za8 (T.1++[((X:Int),d,(wt:Int))],T.2) (za8 (zdA 3 (X:Int) m2) (za8 (lvT (W:Int) cs (zaI (W:Int) cs f) (X:Int) d hf) (lvT (W:Int) cs (zaI (W:Int) cs f) (X:Int) tk hf)))):=by
   show _=_
   rw[HL0.o];unfold zbg;rw[HK.o,if_neg qg,if_neg qg,if_neg qg,if_pos k45,HF.o,HM2.o,HTK.o]
  have hp:lvE (W:Int) cs (zax (W:Int) cs f) (X:Int) d hf/\lvE (W:Int) cs (zax (W:Int) cs f) (X:Int) tk hf:=by
   rcases HE.o with q|q|⟨q,_⟩|⟨_,q,q2⟩|⟨q,_⟩
   ·omega
   ·rw[HK.o] at q;omega
   ·rw[HK.o] at q;omega
   ·rw[HF.o] at q q2;rw[HK.o,HTK.o] at q2;exact⟨q,q2⟩
   ·rw[HK.o] at q;rcases k45 with z|z;exact absurd z q.2.2.2.1;exact absurd z q.2.2.2.2
  have l1:=zlG (zh4 (W:Int) cs f) (X:Int) d hf
  rcases k45 with rfl|rfl
  all_goals
   go_wp2_with fail
   refine(zfJ h4 3 (X:Int) m2 qg (by show T.2.length<=_;omega)).mono ?_
   rintro r w8 ⟨rfl,⟨v_w8,e_w8,h1⟩,h2⟩
   have h3:=h8.trans h2
   have z1:=zhK 3 (X:Int) m2
   have z2:=zfv (T.1++[((X:Int),d,(wt:Int))],T.2) (zdA 3 (X:Int) m2)
   simp only[List.length_append,List.length_cons,List.length_nil] at z2
   have y1:=HFL.o
   have y2:=HFS.o
   have y3:=HL1.o
   go_wp2_with fail
   refine(zhW S IH h1 (X:Int) d hA hf h9.1 hp.1 qg (by have:=HM2.o;omega)).mono ?_
   rintro r w9 ⟨rfl,⟨v_w9,e_w9,h5⟩,h6⟩
   have h7:=h3.trans h6
   have z3:=zfv (za8 (T.1++[((X:Int),d,(wt:Int))],T.2) (zdA 3 (X:Int) m2)) (lvT (W:Int) cs (zaI (W:Int) cs f) (X:Int) d hf)
   go_wp2_with fail
   refine(zdq _ _ _).mono ?_
   rintro r w' ⟨rfl,rfl⟩
   rw[HTK.o]
   go_wp2_with fail
   refine(zhW S IH h5 (X:Int) tk hD hf h9.1 hp.2 qg (by have:=HM2.o;omega)).mono ?_
   rintro r w10 ⟨rfl,⟨v_w10,e_w10,he⟩,hg⟩
   have hj:=h7.trans hg
   go_wp2_with fail
   exact bodyPost_end (v:=.tuple #[]) (by simp[results,results93,go_sem]) rfl ⟨rfl,⟨_,_,by rw[HL.o,<- zb3,<- zb3];exact he⟩,hj⟩
 ·have HL:Hid (L=za8 (T.1++[((X:Int),d,(wt:Int))],T.2) (lvT (W:Int) cs (zaI (W:Int) cs f) (X:Int) tk wt)):=by
   show _=_
   rw[HL0.o];unfold zbg;rw[HK.o,if_neg k1,if_neg k7,if_neg k6',if_neg k45,HTK.o]
  have hq:lvE (W:Int) cs (zax (W:Int) cs f) (X:Int) tk wt:=by
   rcases HE.o with q|q|⟨q,_⟩|⟨q,_⟩|⟨_,q⟩
   ·omega
   ·rw[HK.o] at q;rcases q with z|z;exact absurd z k1;exact absurd z k7
   ·rw[HK.o] at q;exact absurd q k6'
   ·rw[HK.o] at q;exact absurd q k45
   ·rw[HK.o,HTK.o] at q;exact q
  have n1:(k == 1)=false:=by simp[k1]
  have n7:(k == 7)=false:=by simp[k7]
  have n6:(k == 6)=false:=by simp[k6']
  have n4:(k == 4)=false:=by simp;exact fun q=>k45 (Or.inl q)
  have n5:(k == 5)=false:=by simp;exact fun q=>k45 (Or.inr q)
  clear k1 k7 k6' k45
  go_wp2_with fail
  refine(zdq _ _ _).mono ?_
  rintro r w' ⟨rfl,rfl⟩
  rw[HTK.o]
  have y2:=HFS.o
  have y3:=HL1.o
  go_wp2_with fail
  refine(zja S IH h4 (X:Int) tk hD wt qg hw hq (by simp only[List.length_append,List.length_cons,List.length_nil];omega) (by show T.2.length+wt<=_;omega)).mono ?_
  rintro r w8 ⟨rfl,⟨v_w8,e_w8,h1⟩,h2⟩
  have h3:=h8.trans h2
  go_wp2_with fail
  exact bodyPost_end (v:=.tuple #[]) (by simp[results,results93,go_sem]) rfl ⟨rfl,⟨_,_,by rw[HL.o];exact h1⟩,h3⟩
theorem zqs(S:Siz (W:Int) cs W H):∀ f,ziz (aLt:=aLt) f W cs a c B pb:=by
 intro f
 induction f with
 | zero =>
  intro w v e T x d wt h hs hw hE _ _
  have q:wt=0:=hE
  subst q
  exact ziM h x d
 | succ f ih=>exact zn6 S ih
def zaO(wd:Int)(cs:Lp)(k:Int):Tr:=if inS wd cs k=true then zaI wd cs 707 (zbU wd cs k).1 (zbU wd cs k).2.1 64 else ([],[])
theorem zjt{g:Nat}{t:TypeId}(hB:B<=g)(hg:w.heap[g]?=some (.cells #[] t (0,0))):w.ownsRow B t 3 (.slice (xA g) 0 0) 0 [] :=
 ⟨rfl,Or.inr ⟨g,0,#[],rfl,hB,hg,Nat.le_refl _,qs,rfl,rfl⟩⟩
theorem zde(w:World)(o:Obj)(n:Nat)(hn:w.heap.size=n):(w.alloc o).heap[n]?=some o:=by
 subst hn
 exact heap_alloc_new w o
theorem zrZ(w:World)(wd:Int)(a:Od)(cap:Nat)(cs:Lp)(h:zaf w a cs)(ha:∀ b off,a=some (O b off)->b<w.heap.size) :
  Wk ((((w.alloc (.cells (xG wd a cs.length cap) 33)).alloc (.cells #[] 122)).alloc (.cells #[] 119)).alloc (.cells (xH wd a cs.length cap (xA (w.heap.size+1)) 0 0 (xA (w.heap.size+1+1)) 0 0) 111)) w.heap.size (w.heap.size+1+1+1) wd a cap cs
   (.slice (xA (w.heap.size+1)) 0 0) (.slice (xA (w.heap.size+1+1)) 0 0) ([],[]):=by
 obtain⟨u1,e1⟩:∃ u,u=w.alloc (.cells (xG wd a cs.length cap) 33):=⟨_,rfl⟩
 obtain⟨u2,e2⟩:∃ u,u=u1.alloc (.cells #[] 122):=⟨_,rfl⟩
 obtain⟨u3,e3⟩:∃ u,u=u2.alloc (.cells #[] 119):=⟨_,rfl⟩
 obtain⟨u4,e4⟩:∃ u,u=u3.alloc (.cells (xH wd a cs.length cap (xA (w.heap.size+1)) 0 0 (xA (w.heap.size+1+1)) 0 0) 111):=⟨_,rfl⟩
 have s1:u1.heap.size=w.heap.size+1:=by rw[e1];simp
 have s2:u2.heap.size=w.heap.size+1+1:=by rw[e2];simp[s1]
 have s3:u3.heap.size=w.heap.size+1+1+1:=by rw[e3];simp[s2]
 rw[<- e1,<- e2,<- e3,<- e4]
 have b1:xE w u1:=by rw[e1];exact(Below.refl _ _).alloc (Nat.le_refl _) _
 have b2:xE u1 u2:=by rw[e2];exact(Below.refl _ _).alloc (Nat.le_refl _) _
 have b3:xE u2 u3:=by rw[e3];exact(Below.refl _ _).alloc (Nat.le_refl _) _
 have b4:xE u3 u4:=by rw[e4];exact(Below.refl _ _).alloc (Nat.le_refl _) _
 have bT:xE w u4:=zae (zae (zae b1 qg b2) qg b3) qg b4
 have hv:u4.heap[w.heap.size+1]?=some (.cells #[] 122 (0,0)):=by
  rw[b4.block _ qg,b3.block _ qg,e2]
  exact zde u1 _ _ s1
 have he:u4.heap[w.heap.size+1+1]?=some (.cells #[] 119 (0,0)):=by
  rw[b4.block _ qg,e3]
  exact zde u2 _ _ s2
 have hx:u4.heap[w.heap.size+1+1+1]?=some (.cells (xH wd a cs.length cap (xA (w.heap.size+1)) 0 0 (xA (w.heap.size+1+1)) 0 0) 111 (0,0)):=by
  rw[e4]
  exact zde u3 _ _ s3
 exact⟨by rw[cell_of_row _ _ _ _ _ _ hx];rfl,by rw[cell_of_row _ _ _ _ _ _ hx];rfl,by rw[cell_of_row _ _ _ _ _ _ hx];rfl,by rw[cell_of_row _ _ _ _ _ _ hx];rfl,
  frozen_of_row _ _ _ _ _ hx,frozen_of_row _ _ _ _ _ hx,h.below bT,ha,zjt qg hv,zjt qg he,qg,
  by simp[Value.ownBlock],by simp[Value.ownBlock],by simp[Value.ownBlock]⟩
theorem zoM(S:Siz wd cs W H)(a:Od)(cap:Nat)(w:World)(h:zaf w a cs)(k:Int)(hk:inS wd cs k=true) :
  Calls (SqG.prog aLt) 75 #[.agg (xG wd a cs.length cap),J k] w fun r w'=>∃ pb v e,r=.returned (.pointer (xA pb))/\Wk w' w.heap.size pb wd a cap cs v e (zaO wd cs k)/\xE w w':=by
 obtain rfl:=S.ew
 have hW:=S.hW
 have hH:=S.hH
 have h2:1<=cs.length:=by rw[S.el];exact Nat.mul_pos hW.1 hH.1
 have ha:∀ b off,a=some (O b off)->b<w.heap.size:=by
  intro b off e2
  rcases h with q0|⟨b',off',e,hj,_⟩
  ·rw[q0] at h2;simp at h2
  ·rw[e] at e2
   simp only[Option.some.injEq,Addr.mk.injEq] at e2
   omega
 obtain⟨L,hL⟩:∃ L,zaO (W:Int) cs k=L:=⟨_,rfl⟩
 rw[hL]
 have h3:=hk
 simp only[inS,decide_eq_true_eq,S.em] at h3
 obtain⟨K,rfl⟩:=Int.eq_ofNat_of_zero_le h3.1
 obtain⟨x,d,hs⟩:∃ x d,zdI (W:Int) (H:Int) (K:Int)=(x,d):=⟨_,_,rfl⟩
 have hr:zbU (W:Int) cs (K:Int)=(x,d,true):=by rw[zdC S K qg,hs]
 obtain⟨h8,hE⟩:=zdb hr
 have HL:Hid (zaI (W:Int) cs 707 x d 64=L):=by
  show _=_
  rw[<- hL]
  unfold zaO
  rw[if_pos hk,hr]
 have HSR:Hid (zdI (W:Int) (H:Int) (K:Int)=(x,d)):=hs
 have h7:0<=(K:Int)/\(K:Int)<=19:=qg
 clear hL hk h3 hs hr
 go_enter (zfx func75),ntmps75
 go_wp2_with fail
 obtain⟨u,hu⟩:∃ u,u=(((w.alloc (.cells (xG (W:Int) a cs.length cap) 33)).alloc (.cells #[] 122)).alloc (.cells #[] 119)).alloc (.cells (xH (W:Int) a cs.length cap (xA (w.heap.size+1)) 0 0 (xA (w.heap.size+1+1)) 0 0) 111):=⟨_,rfl⟩
 have h4:=zrZ w (W:Int) a cap cs h ha
 have h0:xE w u:=by rw[hu];exact bel
 rw[<- hu] at h4 ⊢
 clear hu
 refine(zi9 W H a cs.length cap _ hW hH S.el (K:Int) h7 x d HSR.o).mono ?_
 rintro r w1 ⟨rfl,h1⟩
 have h5:xE w1 (w1.alloc (.cells #[J x,J d] 144)):=bel
 have hl:=h1.size
 have h9:=(h4.below h1).below h5
 have he:=zae (zae h0 h0.size h1) (by have:=h0.size;omega) h5
 have y0:(w1.alloc (.cells #[J x,J d] 144)).cell? (xC w1 0)=some (J x):=ql
 have y1:(w1.alloc (.cells #[J x,J d] 144)).cell? (xC w1 1)=some (J d):=ql
 clear h1 h5 h4 h0
 go_wp2_with fail
 refine(zqs S 707 _ _ _ ([],[]) x d 64 h9 h8 qg hE qm qm).mono ?_
 rintro r w3 ⟨rfl,⟨v2,e2,h6⟩,hf⟩
 have hT:za8 ([],[]) (zaI (W:Int) cs 707 x d 64)=L:=by rw[HL.o];simp[za8]
 rw[hT] at h6
 have hg:=he.trans hf
 clear y0 y1 hT
 go_wp2_with fail
 go_ret
 exact⟨_,v2,e2,rfl,h6,hg⟩
