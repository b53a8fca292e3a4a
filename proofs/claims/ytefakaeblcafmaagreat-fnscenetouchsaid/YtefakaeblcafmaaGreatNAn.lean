/- Part. -/
import Derived.Deep.AppendLies
import Derived.Laws.Rows
import Derived.Test.YtefakaeblcafmaaGreatNAm
set_option maxHeartbeats 4000000
set_option maxRecDepth 20000
set_option linter.unusedVariables false
namespace Go.Proofs.YtefakaeblcafmaaGreat
variable{d k wd x:Int}{s t:Int × Int}{go go':Int->Int->Nat->Prop}{cs:List (Int × Int)}{B H W c f pb:Nat}{o:Obj}{a:Option Addr}{e v:Value}{w w' w6:World}
open Tryz
namespace Sp
variable{aLt:Nat->Func->Func}
open Go.RowKit
def zcF(k:Int):Nat:=if k=2\/k=4 then 111 else if k=3\/k=5 then 112 else 110
def ziD(d:Int):Int:=if d=0\/d=2 then d+1 else d - 1
def zaL(k d:Int):Int:=if d<0\/3<d then -1 else if k=2\/k=4 then ziD d else if k=3\/k=5 then 3 - d else d
theorem zj0(k:Int)(h:k<0\/7<k)(w:World) :
  Calls (SqG.prog aLt) 76 #[.int .i64 k] w fun e w'=>e=.returned (.func (.func (zcF k)) #[] #[])/\Below w.heap.size w w':=by
 have ht:zcF k=110:=by unfold zcF;rw[if_neg qg,if_neg qg]
 rw[ht]
 rcases h with h|h
 all_goals
  go_enter (zfx func76),ntmps76
  go_wp2
  go_ret
  exact⟨rfl,bel⟩
theorem zqb(w:World) :
  Calls (SqG.prog aLt) 76 #[.int .i64 0] w fun e w'=>e=.returned (.func (.func (zcF 0)) #[] #[])/\Below w.heap.size w w':=by
 go_enter (zfx func76),ntmps76
 go_wp2
 go_ret
 exact⟨rfl,bel⟩
theorem zqc(w:World) :
  Calls (SqG.prog aLt) 76 #[.int .i64 1] w fun e w'=>e=.returned (.func (.func (zcF 1)) #[] #[])/\Below w.heap.size w w':=by
 go_enter (zfx func76),ntmps76
 go_wp2
 go_ret
 exact⟨rfl,bel⟩
theorem zqd(w:World) :
  Calls (SqG.prog aLt) 76 #[.int .i64 2] w fun e w'=>e=.returned (.func (.func (zcF 2)) #[] #[])/\Below w.heap.size w w':=by
 go_enter (zfx func76),ntmps76
 go_wp2
 go_ret
 exact⟨rfl,bel⟩
theorem zqe(w:World) :
  Calls (SqG.prog aLt) 76 #[.int .i64 3] w fun e w'=>e=.returned (.func (.func (zcF 3)) #[] #[])/\Below w.heap.size w w':=by
 go_enter (zfx func76),ntmps76
 go_wp2
 go_ret
 exact⟨rfl,bel⟩
theorem zqf(w:World) :
  Calls (SqG.prog aLt) 76 #[.int .i64 4] w fun e w'=>e=.returned (.func (.func (zcF 4)) #[] #[])/\Below w.heap.size w w':=by
 go_enter (zfx func76),ntmps76
 go_wp2
 go_ret
 exact⟨rfl,bel⟩
theorem zqg(w:World) :
  Calls (SqG.prog aLt) 76 #[.int .i64 5] w fun e w'=>e=.returned (.func (.func (zcF 5)) #[] #[])/\Below w.heap.size w w':=by
 go_enter (zfx func76),ntmps76
 go_wp2
 go_ret
 exact⟨rfl,bel⟩
theorem zqh(w:World) :
  Calls (SqG.prog aLt) 76 #[.int .i64 6] w fun e w'=>e=.returned (.func (.func (zcF 6)) #[] #[])/\Below w.heap.size w w':=by
 go_enter (zfx func76),ntmps76
 go_wp2
 go_ret
 exact⟨rfl,bel⟩
theorem zqi(w:World) :
  Calls (SqG.prog aLt) 76 #[.int .i64 7] w fun e w'=>e=.returned (.func (.func (zcF 7)) #[] #[])/\Below w.heap.size w w':=by
 go_enter (zfx func76),ntmps76
 go_wp2
 go_ret
 exact⟨rfl,bel⟩
theorem zmj(k:Int)(w:World) :
  Calls (SqG.prog aLt) 76 #[.int .i64 k] w fun e w'=>e=.returned (.func (.func (zcF k)) #[] #[])/\Below w.heap.size w w':=by
 by_cases h:k<0\/7<k
 ·exact zj0 k h w
 ·rcases (show k=0\/k=1\/k=2\/k=3\/k=4\/k=5\/k=6\/k=7 by omega) with rfl|rfl|rfl|rfl|rfl|rfl|rfl|rfl
  ·exact zqb w
  ·exact zqc w
  ·exact zqd w
  ·exact zqe w
  ·exact zqf w
  ·exact zqg w
  ·exact zqh w
  ·exact zqi w
theorem zge(k:Int)(n:Nat)(h:zcF k=n)(w:World) :
  Calls (SqG.prog aLt) 76 #[.int .i64 k] w fun e w'=>e=.returned (.func (.func n) #[] #[])/\Below w.heap.size w w':=by
 rw[<- h]
 exact zmj k w
theorem ziS(k d:Int)(h:d<0\/3<d):zaL k d=-1:=by unfold zaL;rw[if_pos h]
theorem zdp(k d:Int)(h0:0<=d)(h3:d<=3):zaL k d=if k=2\/k=4 then ziD d else if k=3\/k=5 then 3 - d else d:=by unfold zaL;rw[if_neg qg]
theorem ziL(d:Int)(w:World) :
  Calls (SqG.prog aLt) 110 #[.int .i64 d] w fun e w'=>e=.returned (.int .i64 d)/\w'=w:=by
 go_enter (zfx func110),ntmps110
 go_wp2
 go_ret
 exact⟨rfl,rfl⟩
theorem zi4(d:Int)(h0:0<=d)(h3:d<=3)(w:World) :
  Calls (SqG.prog aLt) 111 #[.int .i64 d] w fun e w'=>e=.returned (.int .i64 (ziD d))/\w'=w:=by
 rcases (show d=0\/d=1\/d=2\/d=3 by omega) with rfl|rfl|rfl|rfl
 all_goals
  go_enter (zfx func111),ntmps111
  go_wp2
  go_ret
  exact⟨rfl,rfl⟩
theorem zlc(d:Int)(h0:0<=d)(h3:d<=3)(w:World) :
  Calls (SqG.prog aLt) 112 #[.int .i64 d] w fun e w'=>e=.returned (.int .i64 (3 - d))/\w'=w:=by
 rcases (show d=0\/d=1\/d=2\/d=3 by omega) with rfl|rfl|rfl|rfl
 all_goals
  go_enter (zfx func112),ntmps112
  go_wp2
  go_ret
  exact⟨rfl,rfl⟩
theorem zfy(k d:Int)(w:World) :
  Calls (SqG.prog aLt) 51 #[.int .i64 k,.int .i64 d] w fun e w'=>e=.returned (.int .i64 (zaL k d))/\Below w.heap.size w w':=by
 by_cases hd:d<0\/3<d
 ·rw[ziS k d hd]
  have hi:inB d 0 3=false:=by simp[inB];omega
  clear hd
  go_enter (zfx func51),ntmps51
  go_wp2_with fail
  refine(zcl _ _).mono ?_
  rintro e w' ⟨rfl,rfl⟩
  go_wp2
  go_ret
  exact⟨rfl,bel⟩
 ·have h0:0<=d:=qg
  have h3:d<=3:=qg
  have hi:inB d 0 3=true:=by simp[inB,h0,h3]
  rw[zdp k d h0 h3]
  by_cases h24:k=2\/k=4
  ·have ht:zcF k=111:=by unfold zcF;rw[if_pos h24]
   rw[if_pos h24]
   clear h24 hd
   go_enter (zfx func51),ntmps51
   go_wp2_with fail
   refine(zcl _ _).mono ?_
   rintro e w' ⟨rfl,rfl⟩
   go_wp2_with fail
   refine(zge k _ ht _).mono ?_
   rintro e w1 ⟨rfl,hb⟩
   go_wp2_with fail
   skip
   refine(zi4 d h0 h3 _).mono ?_
   rintro e w' ⟨rfl,rfl⟩
   go_wp2_with fail
   go_ret
   exact⟨rfl,by first|exact hb|exact hb.drew⟩
  ·rw[if_neg h24]
   by_cases h35:k=3\/k=5
   ·have ht:zcF k=112:=by unfold zcF;rw[if_neg h24,if_pos h35]
    rw[if_pos h35]
    clear h24 h35 hd
    go_enter (zfx func51),ntmps51
    go_wp2_with fail
    refine(zcl _ _).mono ?_
    rintro e w' ⟨rfl,rfl⟩
    go_wp2_with fail
    refine(zge k _ ht _).mono ?_
    rintro e w1 ⟨rfl,hb⟩
    go_wp2_with fail
    skip
    refine(zlc d h0 h3 _).mono ?_
    rintro e w' ⟨rfl,rfl⟩
    go_wp2_with fail
    go_ret
    exact⟨rfl,by first|exact hb|exact hb.drew⟩
   ·have ht:zcF k=110:=by unfold zcF;rw[if_neg h24,if_neg h35]
    rw[if_neg h35]
    clear h24 h35 hd
    go_enter (zfx func51),ntmps51
    go_wp2_with fail
    refine(zcl _ _).mono ?_
    rintro e w' ⟨rfl,rfl⟩
    go_wp2_with fail
    refine(zge k _ ht _).mono ?_
    rintro e w1 ⟨rfl,hb⟩
    go_wp2_with fail
    skip
    refine(ziL d _).mono ?_
    rintro e w' ⟨rfl,rfl⟩
    go_wp2_with fail
    go_ret
    exact⟨rfl,by first|exact hb|exact hb.drew⟩
theorem zc4(k d:Int)(w:World) :
  Calls (SqG.prog aLt) 108 #[.int .i64 k,.int .i64 d] w fun e w'=>e=.returned (.int .i64 (zaL k d))/\w'=w:=by
 by_cases hd:d<0\/3<d
 ·rw[ziS k d hd]
  have hi:inB d 0 3=false:=by simp[inB];omega
  clear hd
  go_enter (zfx func108),ntmps108
  go_wp2_with (go_at_call 38;refine(zbe _ _ _ _).mono ?_;rintro e w' ⟨rfl,rfl⟩)
  go_ret
  exact⟨rfl,rfl⟩
 ·have h0:0<=d:=qg
  have h3:d<=3:=qg
  have hi:inB d 0 3=true:=by simp[inB,h0,h3]
  rw[zdp k d h0 h3]
  by_cases h24:k=2\/k=4
  ·rw[if_pos h24]
   clear hd hi
   rcases h24 with rfl|rfl
   all_goals
    rcases (show d=0\/d=1\/d=2\/d=3 by omega) with rfl|rfl|rfl|rfl
    all_goals
     clear h0 h3
     go_enter (zfx func108),ntmps108
     go_wp2_with (first|(go_at_call 38;go_enter (zfx func38),ntmps38)|fail)
     go_ret
     exact⟨rfl,rfl⟩
  ·rw[if_neg h24]
   by_cases h35:k=3\/k=5
   ·rw[if_pos h35]
    clear hd hi h24
    rcases h35 with rfl|rfl
    all_goals
     rcases (show d=0\/d=1\/d=2\/d=3 by omega) with rfl|rfl|rfl|rfl
     all_goals
      clear h0 h3
      go_enter (zfx func108),ntmps108
      go_wp2_with (first|(go_at_call 38;go_enter (zfx func38),ntmps38)|fail)
      go_ret
      exact⟨rfl,rfl⟩
   ·rw[if_neg h35]
    have n2:(k == 2)=false:=ql
    have n3:(k == 3)=false:=ql
    have n4:(k == 4)=false:=ql
    have n5:(k == 5)=false:=ql
    clear hd h24 h35
    go_enter (zfx func108),ntmps108
    go_wp2_with (go_at_call 38;refine(zbe _ _ _ _).mono ?_;rintro e w' ⟨rfl,rfl⟩)
    go_ret
    exact⟨rfl,rfl⟩
def kd(cs:List (Int × Int))(x:Int):Int:=(cs.getD x.toNat (0,0)).1
abbrev Tr:=List (Int × Int × Int) × List (Int × Int × Int)
def zaZ(a b:Tr):Tr:=(a.1++b.1,a.2++b.2)
def zde(kind wh:Int)(wt:Nat):Tr:=([],if wt=0 then [] else [(kind,wh,(wt:Int))])
def lvT(wd:Int)(cs:List (Int × Int))(go:Int->Int->Nat->Tr)(x e:Int)(h:Nat):Tr :=
 if h=0 then ([],[]) else if (zbH wd cs x e).2.2=true then go (zbH wd cs x e).1 e h else zde 0 (zcy wd cs x e) h
def zbb(wd:Int)(cs:List (Int × Int))(go:Int->Int->Nat->Tr)(x d:Int)(wt:Nat):Tr :=
 if kd cs x=1 then zde 1 x wt else if kd cs x=7 then zde 2 x wt
 else if kd cs x=6 then zaZ (zde 3 x (wt - wt / 2)) (lvT wd cs go x d (wt / 2))
 else if kd cs x=4\/kd cs x=5 then zaZ (zde 3 x (wt - 2 * (wt / 2))) (zaZ (lvT wd cs go x d (wt / 2)) (lvT wd cs go x (zaL (kd cs x) d) (wt / 2)))
 else lvT wd cs go x (zaL (kd cs x) d) wt
def zaE(wd:Int)(cs:List (Int × Int)):Nat->Int->Int->Nat->Tr
 | 0=>fun _ _ _=>([],[])
 | f+1=>fun x d wt=>if wt=0 then ([],[]) else zaZ ([(x,d,(wt:Int))],[]) (zbb wd cs (zaE wd cs f) x d wt)
def zfK(k:Int):Prop:=k≠1/\k≠7/\k≠6/\k≠4/\k≠5
def lvE(wd:Int)(cs:List (Int × Int))(go:Int->Int->Nat->Prop)(x e:Int)(h:Nat):Prop:=h=0\/(zbH wd cs x e).2.2=false\/go (zbH wd cs x e).1 e h
def zas(wd:Int)(cs:List (Int × Int)):Nat->Int->Int->Nat->Prop
 | 0=>fun _ _ wt=>wt=0
 | f+1=>fun x d wt=>wt=0\/(kd cs x=1\/kd cs x=7)\/(kd cs x=6/\lvE wd cs (zas wd cs f) x d (wt / 2)) \/
   ((kd cs x=4\/kd cs x=5)/\lvE wd cs (zas wd cs f) x d (wt / 2)/\lvE wd cs (zas wd cs f) x (zaL (kd cs x) d) (wt / 2))\/(zfK (kd cs x)/\lvE wd cs (zas wd cs f) x (zaL (kd cs x) d) wt)
theorem zd5(hm:∀ x d wt,go x d wt->go' x d wt){e:Int}{h:Nat}(q:lvE wd cs go x e h):lvE wd cs go' x e h:=by
 rcases q with q|q|q
 ·exact Or.inl q
 ·exact Or.inr (Or.inl q)
 ·exact Or.inr (Or.inr (hm _ _ _ q))
theorem zfk(wd:Int)(cs:List (Int × Int)):∀ f x d wt,zas wd cs f x d wt->zas wd cs (f+1) x d wt:=by
 intro f
 induction f with
 | zero=>intro x d wt h;exact Or.inl h
 | succ f ih =>
  intro x d wt h
  rcases h with h|h|⟨h1,h2⟩|⟨h1,h2,h3⟩|⟨h1,h2⟩
  ·exact Or.inl h
  ·exact Or.inr (Or.inl h)
  ·exact Or.inr (Or.inr (Or.inl ⟨h1,zd5 ih h2⟩))
  ·exact Or.inr (Or.inr (Or.inr (Or.inl ⟨h1,zd5 ih h2,zd5 ih h3⟩)))
  ·exact Or.inr (Or.inr (Or.inr (Or.inr ⟨h1,zd5 ih h2⟩)))
theorem zja(wd:Int)(cs:List (Int × Int))(f m:Nat)(x d:Int)(wt:Nat)(h:zas wd cs f x d wt):zas wd cs (f+m) x d wt:=by
 induction m with
 | zero=>exact h
 | succ m ih=>exact zfk wd cs (f+m) x d wt ih
def stops(wd:Int)(cs:List (Int × Int)):Nat->Int->Int->Prop
 | 0=>fun _ _=>False
 | j+1=>fun x d=>¬ zfK (kd cs x)\/(zbH wd cs x (zaL (kd cs x) d)).2.2=false\/stops wd cs j (zbH wd cs x (zaL (kd cs x) d)).1 (zaL (kd cs x) d)
def fresh(wd:Int)(cs:List (Int × Int))(x d:Int):Prop:=(zbH wd cs x ((d+2) % 4)).2.2=false\/¬ zfK (kd cs (zbH wd cs x ((d+2) % 4)).1)
theorem zre:∀(n:Nat) (f:Nat->Nat),(∀ i,i<n+1->f i<n)->∃ i j,i<j/\j<n+1/\f i=f j:=by
 intro n
 induction n with
 | zero=>intro f h;have:=h 0 qg;omega
 | succ n ih =>
  intro f h
  by_cases c:∃ i,i<n+1/\f i=f (n+1)
  ·obtain⟨i,hi,e⟩:=c
   exact⟨i,n+1,hi,qg,e⟩
  ·have c':∀ i,i<n+1->f i≠f (n+1):=fun i hi e=>c ⟨i,hi,e⟩
   obtain⟨i,j,hij,hj,e⟩:=ih (fun i=>if f i=n then f (n+1) else f i) (by
    intro i hi
    have h1:=h i qg
    have h2:=h (n+1) qg
    have h3:=c' i hi
    show (if f i=n then f (n+1) else f i)<n
    split <;> omega)
   refine⟨i,j,hij,qg,?_⟩
   have hi1:=c' i qg
   have hj1:=c' j hj
   split at e <;> split at e <;> omega
theorem zdL(hd:0<=d/\d<=3):0<=zaL k d/\zaL k d<=3:=by
 rw[zdp k d hd.1 hd.2]
 unfold ziD
 split <;> (try split) <;> omega
theorem zot{e:Int}(hd:0<=d/\d<=3)(he:0<=e/\e<=3)(h:zaL k d=zaL k e):d=e:=by
 rw[zdp k d hd.1 hd.2,zdp k e he.1 he.2] at h
 unfold ziD at h
 split at h
 ·split at h <;> split at h <;> omega
 ·split at h <;> omega
def okS(cs:List (Int × Int))(s:Int × Int):Prop:=(0<=s.1/\s.1<(cs.length:Int))/\(0<=s.2/\s.2<=3)
def nxS(wd:Int)(cs:List (Int × Int))(s:Int × Int):Int × Int:=((zbH wd cs s.1 (zaL (kd cs s.1) s.2)).1,zaL (kd cs s.1) s.2)
def zmx(wd:Int)(cs:List (Int × Int))(s:Int × Int):Prop:=zfK (kd cs s.1)/\(zbH wd cs s.1 (zaL (kd cs s.1) s.2)).2.2=true
def itS(wd:Int)(cs:List (Int × Int))(s:Int × Int):Nat->Int × Int
 | 0=>s
 | i+1=>nxS wd cs (itS wd cs s i)
theorem zbq{e:Int}(h:(zbH wd cs x e).2.2=true):(0<=(zbH wd cs x e).1/\(zbH wd cs x e).1<(cs.length:Int))/\(0<=e/\e<=3)/\zbH wd cs (zbH wd cs x e).1 ((e+2) % 4)=(x,(e+2) % 4,true):=by
 obtain⟨x2,d2,b2,ev⟩:∃ x2 d2 b2,zbH wd cs x e=(x2,d2,b2):=⟨_,_,_,rfl⟩
 rw[ev] at h ⊢
 simp only at h ⊢
 subst h
 obtain⟨e2,he,_,_,_,hb,_⟩:=zkF ev
 subst e2
 exact⟨(zix hb).2.1,he,hb⟩
theorem zsv(h:zmx wd cs s):okS cs (nxS wd cs s):=by
 obtain⟨h1,h2,_⟩:=zbq h.2
 exact⟨h1,h2⟩
theorem zrQ(hs:okS cs s)(ht:okS cs t)(ls:zmx wd cs s)(lt:zmx wd cs t)(h:nxS wd cs s=nxS wd cs t):s=t:=by
 unfold nxS at h
 simp only[Prod.mk.injEq] at h
 have b1:=(zbq ls.2).2.2
 have b2:=(zbq lt.2).2.2
 rw[h.1,h.2,b2] at b1
 simp only[Prod.mk.injEq] at b1
 have e1:t.1=s.1:=b1.1
 have e2:=h.2
 rw[e1] at e2
 exact Prod.ext e1.symm (zot hs.2 ht.2 e2)
theorem zpu(h:zmx wd cs t)(e:nxS wd cs t=s):¬ fresh wd cs s.1 s.2:=by
 have b:=(zbq h.2).2.2
 subst e
 rintro (q|q)
 ·rw[show (zbH wd cs (nxS wd cs t).1 (((nxS wd cs t).2+2) % 4))=_ from b] at q
  simp at q
 ·rw[show (zbH wd cs (nxS wd cs t).1 (((nxS wd cs t).2+2) % 4))=_ from b] at q
  exact q h.1
theorem zq4 :∀(j:Nat) (s:Int × Int),¬ stops wd cs j s.1 s.2->∀ i,i<j->zmx wd cs (itS wd cs s i):=by
 have key:∀(i j:Nat) (s:Int × Int),¬ stops wd cs j s.1 s.2->i<=j->¬ stops wd cs (j - i) (itS wd cs s i).1 (itS wd cs s i).2:=by
  intro i
  induction i with
  | zero=>intro j s h _;exact h
  | succ i ih =>
   intro j s h hi
   have q:=ih j s h qg
   rw[show j - i=(j - (i+1))+1 by omega] at q
   intro q2
   exact q (Or.inr (Or.inr q2))
 intro j s h i hi
 have q:=key i j s h qg
 rw[show j - i=(j - i - 1)+1 by omega] at q
 refine⟨Classical.byContradiction fun n=>q (Or.inl n),?_⟩
 by_cases c:(zbH wd cs (itS wd cs s i).1 (zaL (kd cs (itS wd cs s i).1) (itS wd cs s i).2)).2.2=true
 ·exact c
 ·exact absurd (Or.inr (Or.inl (by simpa using c))) q
theorem zjh(hn:cs.length<=25)(hx:0<=x/\x<(cs.length:Int))(hd:0<=d/\d<=3)(hf:fresh wd cs x d):stops wd cs 101 x d:=by
 refine Classical.byContradiction fun hno=>?_
 have ha:=zq4 101 (x,d) hno
 have hok:∀ i,i<101->okS cs (itS wd cs (x,d) i):=by
  intro i
  cases i with
  | zero=>intro _;exact⟨hx,hd⟩
  | succ i=>intro hi;exact zsv (ha i qg)
 have hne:∀ i m,i<m->m<101->itS wd cs (x,d) i≠itS wd cs (x,d) m:=by
  intro i
  induction i with
  | zero =>
   intro m hm hm2 e
   obtain⟨p,rfl⟩:∃ p,m=p+1:=⟨m - 1,qg⟩
   exact zpu (s:=(x,d)) (ha p qg) e.symm hf
  | succ i ih =>
   intro m hm hm2 e
   obtain⟨p,rfl⟩:∃ p,m=p+1:=⟨m - 1,qg⟩
   exact ih p qg qg (zrQ (hok i qg) (hok p qg) (ha i qg) (ha p qg) e)
 obtain⟨i,j,hij,hj,e⟩:=zre 100 (fun i=>(4 * (itS wd cs (x,d) i).1+(itS wd cs (x,d) i).2).toNat) (by
  intro i hi
  obtain⟨q1,q2⟩:=hok i qg
  show (4 * (itS wd cs (x,d) i).1+(itS wd cs (x,d) i).2).toNat<100
  omega)
 obtain⟨q1,q2⟩:=hok i qg
 obtain⟨q3,q4⟩:=hok j qg
 exact hne i j hij qg (Prod.ext qg qg)
theorem zll{e:Int}(hk:¬ zfK (kd cs x))(h:(zbH wd cs x e).2.2=true):fresh wd cs (zbH wd cs x e).1 e:=by
 right
 rw[(zbq h).2.2]
 exact hk
theorem zhY(hn:cs.length<=25):∀(l:Nat) (x d:Int) (wt:Nat),wt<2 ^ l->(0<=x/\x<(cs.length:Int))->(0<=d/\d<=3)->fresh wd cs x d->zas wd cs (101 * l) x d wt:=by
 intro l
 induction l with
 | zero =>
  intro x d wt h _ _ _
  have:wt=0:=by simp at h;exact h
  exact this
 | succ l ih =>
  have half:∀(j:Nat) (x e:Int) (wt:Nat),wt<2 ^ (l+1)->¬ zfK (kd cs x)->lvE wd cs (zas wd cs (101 * l+j)) x e (wt / 2):=by
   intro j x e wt hw hk
   by_cases c:(zbH wd cs x e).2.2=true
   ·obtain⟨r1,r2,_⟩:=zbq c
    have hw2:wt / 2<2 ^ l:=by rw[Nat.pow_succ] at hw;omega
    exact Or.inr (Or.inr (zja wd cs (101 * l) j _ _ _ (ih _ e (wt / 2) hw2 r1 r2 (zll hk c))))
   ·exact Or.inr (Or.inl (by simpa using c))
  have path:∀(j:Nat) (x d:Int) (wt:Nat),wt<2 ^ (l+1)->stops wd cs j x d->zas wd cs (101 * l+j) x d wt:=by
   intro j
   induction j with
   | zero=>intro x d wt _ h;exact absurd h (fun q=>q)
   | succ j ihj =>
    intro x d wt hw hs
    show zas wd cs (101 * l+j+1) x d wt
    by_cases h1:kd cs x=1\/kd cs x=7
    ·exact Or.inr (Or.inl h1)
    by_cases h6:kd cs x=6
    ·exact Or.inr (Or.inr (Or.inl ⟨h6,half j x d wt hw (fun q=>q.2.2.1 h6)⟩))
    by_cases h4:kd cs x=4\/kd cs x=5
    ·have hk:¬ zfK (kd cs x):=fun q=>by rcases h4 with h|h;exact q.2.2.2.1 h;exact q.2.2.2.2 h
     exact Or.inr (Or.inr (Or.inr (Or.inl ⟨h4,half j x d wt hw hk,half j x _ wt hw hk⟩)))
    ·have hp:zfK (kd cs x):=⟨fun q=>h1 (Or.inl q),fun q=>h1 (Or.inr q),h6,fun q=>h4 (Or.inl q),fun q=>h4 (Or.inr q)⟩
     refine Or.inr (Or.inr (Or.inr (Or.inr ⟨hp,?_⟩)))
     rcases hs with q|q|q
     ·exact absurd hp q
     ·exact Or.inr (Or.inl q)
     ·exact Or.inr (Or.inr (ihj _ _ _ hw q))
  intro x d wt hw hx hd hf
  exact path 101 x d wt hw (zjh hn hx hd hf)
theorem zcQ(h:zbT wd cs k=(x,d,true)):((0<=x/\x<(cs.length:Int))/\(0<=d/\d<=3))/\zas wd cs 707 x d 64:=by
 obtain⟨hd,hr,_,_⟩:=zmD h
 have c:okG wd cs=true/\0<=k/\k<zbU wd cs:=by
  unfold zbT at h
  split at h
  ·assumption
  ·simp at h
 obtain⟨W,H,S⟩:=zc3 c.1
 have hk:=c.2
 rw[S.em] at hk
 obtain⟨K,rfl⟩:=Int.eq_ofNat_of_zero_le hk.1
 have hn:cs.length<=25:=by rw[S.el];exact Nat.le_trans (Nat.mul_le_mul S.hW.2 S.hH.2) qg
 have hx:0<=x/\x<(cs.length:Int):=by
  rw[zd4 S K qg] at h
  simp only[Prod.mk.injEq] at h
  have:=(zgL W H K S.hW S.hH qg x d (Prod.ext h.1 h.2.1)).1
  rw[S.el]
  simpa using this
 exact⟨⟨hx,hd⟩,zhY hn 7 x d 64 qg hx hd (Or.inl (by rw[hr]))⟩
theorem zh9:((SqG.prog aLt).info? 54).map (fun i=>(i.zero,i.size,i.bytes))=some (some (.agg #[.int .i64 0,.int .i64 0,.int .i64 0]),3,24):=qh
theorem zne:((SqG.prog aLt).info? 99).map (fun i=>(i.zero,i.size,i.bytes))=some (some (.agg #[.int .i64 0,.int .i64 0,.int .i64 0]),3,24):=qh
def flat3(xs:List (Int × Int × Int)):List Value:=xs.flatMap fun t=>[.int .i64 t.1,.int .i64 t.2.1,.int .i64 t.2.2]
theorem zb5(a b:List (Int × Int × Int)):flat3 (a++b)=flat3 a++flat3 b:=by simp[flat3]
theorem zkP{b i j:Nat}{u:Value}(hne:i≠j)(h:w.cell? ⟨b,i,none⟩=some v):(w.setCell ⟨b,j,none⟩ u).cell? ⟨b,i,none⟩=some v:=by
 have q:(⟨b,j,none⟩:Addr)≠⟨b,i,none⟩:=fun e=>hne (Addr.mk.inj e).2.1.symm
 rw[World.cell?_setCell_other _ _ _ _ q]
 exact h
structure Wk(w:World)(B pb:Nat)(wd:Int)(a:Option Addr)(c:Nat)(cs:List (Int × Int))(v e:Value)(T:Tr):Prop where
 c0:w.cell? ⟨pb,0,none⟩=some (.int .i64 wd)
 c1:w.cell? ⟨pb,1,none⟩=some (.slice a cs.length c)
 c2:w.cell? ⟨pb,2,none⟩=some v
 c3:w.cell? ⟨pb,3,none⟩=some e
 f2:w.frozen? ⟨pb,2,none⟩=false
 f3:w.frozen? ⟨pb,3,none⟩=false
 hC:zaf w a cs
 ha:∀ b off,a=some ⟨b,off,none⟩->b<B
 ov:w.ownsRow B 54 3 v T.1.length (flat3 T.1)
 oe:w.ownsRow B 99 3 e T.2.length (flat3 T.2)
 hB:B<=pb
 dv:v.ownBlock≠some pb
 de:e.ownBlock≠some pb
 dd:∀ g,v.ownBlock=some g->e.ownBlock≠some g
theorem Wk.lt{T:Tr}(h:Wk w B pb wd a c cs v e T):pb<w.heap.size:=World.block_lt_of_cell? w _ h.c0
theorem Wk.cells{T:Tr}(h:Wk w B pb wd a c cs v e T)(hb:Below B w w'):zaf w' a cs:=by
 have ha:=h.ha
 rcases h.hC with q|⟨b,off,rfl,hbl,hc⟩
 ·exact Or.inl q
 ·have hbB:=ha b off rfl
  refine Or.inr ⟨b,off,rfl,nll hbl hb.size,fun i hi=>?_⟩
  rw[hb.cell (p:=⟨b,off+i * 2,none⟩) hbB,hb.cell (p:=⟨b,off+i * 2+1,none⟩) hbB]
  exact hc i hi
theorem Wk.below{T:Tr}(h:Wk w B pb wd a c cs v e T)(hb:Below w.heap.size w w'):Wk w' B pb wd a c cs v e T :=
 ⟨zad hb h.c0,zad hb h.c1,zad hb h.c2,zad hb h.c3,zal hb h.c2 h.f2,zal hb h.c3 h.f3,h.hC.below hb,h.ha,
  h.ov.kept (row:=none) ⟨hb.os,hb.tape,hb.output,hb.size,fun k hk _=>hb.block k hk⟩ (by by_cases q:v.ownBlock=none;exact Or.inl q;exact Or.inr q),
  h.oe.kept (row:=none) ⟨hb.os,hb.tape,hb.output,hb.size,fun k hk _=>hb.block k hk⟩ (by by_cases q:e.ownBlock=none;exact Or.inl q;exact Or.inr q),h.hB,h.dv,h.de,h.dd⟩
theorem Wk.visit{T:Tr}{g6 k6:Nat}{y z:Int}(h:Wk w B pb wd a c cs v e T)(hO:w6.ownsRow B 54 3 (.slice (some ⟨g6,0,none⟩) (T.1.length+1) k6) (T.1.length+1) (flat3 T.1++[.int .i64 x,.int .i64 y,.int .i64 z]))(hg:(w.alloc o).grownBy w6 v.ownBlock)(hat:v.ownBlock=some g6\/g6=w.heap.size+1) :
  (w6.cell? ⟨pb,2,none⟩=some v/\w6.frozen? ⟨pb,2,none⟩=false)/\Wk (w6.setCell ⟨pb,2,none⟩ (.slice (some ⟨g6,0,none⟩) (T.1.length+1) k6)) B pb wd a c cs (.slice (some ⟨g6,0,none⟩) (T.1.length+1) k6) e (T.1++[(x,y,z)],T.2)/\Below B w (w6.setCell ⟨pb,2,none⟩ (.slice (some ⟨g6,0,none⟩) (T.1.length+1) k6)):=by
 have hpb:pb<w.heap.size:=World.block_lt_of_cell? w _ h.c0
 have hbA:Below w.heap.size w (w.alloc o):=(Below.refl _ _).alloc (Nat.le_refl _) o
 have hp:some pb≠v.ownBlock:=fun q=>h.dv q.symm
 have hz:=hg.size
 simp at hz
 have hgp:g6≠pb:=by
  rcases hat with q|q
  ·intro q2;subst q2;exact h.dv q
  ·omega
 have cell:∀ j u,w.cell? ⟨pb,j,none⟩=some u->w6.cell? ⟨pb,j,none⟩=some u:=fun j u q=>hg.cell (zad hbA q) hp
 have froz:∀ j,w.frozen? ⟨pb,j,none⟩=false->w6.frozen? ⟨pb,j,none⟩=false:=fun j q=>by
  rw[hg.frozen_far ⟨pb,j,none⟩ ql hp,hbA.frozen (p:=⟨pb,j,none⟩) hpb];exact q
 have hbB:Below B w w6:=by
  refine⟨hg.os.trans hbA.os,hg.tape.trans hbA.tape,hg.output.trans hbA.output,qg,fun k hk=>?_⟩
  have hB:=h.hB
  rw[hg.block k ql (fun q=>by have:=(h.ov.lt k q.symm).1;omega)]
  exact hbA.block k qg
 refine⟨⟨cell _ _ h.c2,froz _ h.f2⟩,?_,hbB.setCell (p:=⟨pb,2,none⟩) h.hB _⟩
 have hoth:w6.ownsRow B 99 3 e T.2.length (flat3 T.2):=(h.oe.alloc o).kept hg (by
  by_cases q:e.ownBlock=none
  ·exact Or.inl q
  ·right;intro q2;obtain⟨g,hg2⟩:∃ g,e.ownBlock=some g:=Option.ne_none_iff_exists'.1 q
   exact h.dd g (q2 ▸ hg2) hg2)
 have hlen:(T.1++[(x,y,z)]).length=T.1.length+1:=qk
 have hfl:flat3 (T.1++[(x,y,z)])=flat3 T.1++[.int .i64 x,.int .i64 y,.int .i64 z]:=by rw[zb5];rfl
 have hnew:(w6.setCell ⟨pb,2,none⟩ (.slice (some ⟨g6,0,none⟩) (T.1.length+1) k6)).ownsRow B 54 3 (.slice (some ⟨g6,0,none⟩) (T.1.length+1) k6) (T.1++[(x,y,z)]).length (flat3 (T.1++[(x,y,z)])):=by
  rw[hlen,hfl]
  exact ownsRow_setCell_other hO (by simp[Value.ownBlock,hgp]) _
 have holdr:=ownsRow_setCell_other hoth (a:=⟨pb,2,none⟩) h.de (.slice (some ⟨g6,0,none⟩) (T.1.length+1) k6)
 have hcs:zaf w6 a cs:=h.cells hbB
 have hdd:∀ g,(Value.slice (some ⟨g6,0,none⟩) (T.1.length+1) k6).ownBlock=some g->e.ownBlock≠some g:=by
  intro g q
  simp only[Value.ownBlock,Option.some.injEq] at q
  subst q
  intro q2
  rcases hat with q3|q3
  ·exact h.dd g6 q3 q2
  ·have:=(h.oe.lt g6 q2).2;omega
 exact⟨zkP qi (cell _ _ h.c0),zkP qi (cell _ _ h.c1),World.cell?_setCell_same _ _ _ (by rw[cell _ _ h.c2]),zkP qi (cell _ _ h.c3),by simpa using froz _ h.f2,by simpa using froz _ h.f3,
  hcs.set (fun b off q=>by have:=h.ha b off q;have:=h.hB;omega) _,h.ha,hnew,holdr,h.hB,by simp[Value.ownBlock,hgp],h.de,hdd⟩
theorem Wk.ends{T:Tr}{g6 k6:Nat}{y z:Int}(h:Wk w B pb wd a c cs v e T)(hO:w6.ownsRow B 99 3 (.slice (some ⟨g6,0,none⟩) (T.2.length+1) k6) (T.2.length+1) (flat3 T.2++[.int .i64 x,.int .i64 y,.int .i64 z]))(hg:(w.alloc o).grownBy w6 e.ownBlock)(hat:e.ownBlock=some g6\/g6=w.heap.size+1) :
  (w6.cell? ⟨pb,3,none⟩=some e/\w6.frozen? ⟨pb,3,none⟩=false)/\Wk (w6.setCell ⟨pb,3,none⟩ (.slice (some ⟨g6,0,none⟩) (T.2.length+1) k6)) B pb wd a c cs v (.slice (some ⟨g6,0,none⟩) (T.2.length+1) k6) (T.1,T.2++[(x,y,z)])/\Below B w (w6.setCell ⟨pb,3,none⟩ (.slice (some ⟨g6,0,none⟩) (T.2.length+1) k6)):=by
 have hpb:pb<w.heap.size:=World.block_lt_of_cell? w _ h.c0
 have hbA:Below w.heap.size w (w.alloc o):=(Below.refl _ _).alloc (Nat.le_refl _) o
 have hp:some pb≠e.ownBlock:=fun q=>h.de q.symm
 have hz:=hg.size
 simp at hz
 have hgp:g6≠pb:=by
  rcases hat with q|q
  ·intro q2;subst q2;exact h.de q
  ·omega
 have cell:∀ j u,w.cell? ⟨pb,j,none⟩=some u->w6.cell? ⟨pb,j,none⟩=some u:=fun j u q=>hg.cell (zad hbA q) hp
 have froz:∀ j,w.frozen? ⟨pb,j,none⟩=false->w6.frozen? ⟨pb,j,none⟩=false:=fun j q=>by
  rw[hg.frozen_far ⟨pb,j,none⟩ ql hp,hbA.frozen (p:=⟨pb,j,none⟩) hpb];exact q
 have hbB:Below B w w6:=by
  refine⟨hg.os.trans hbA.os,hg.tape.trans hbA.tape,hg.output.trans hbA.output,qg,fun k hk=>?_⟩
  have hB:=h.hB
  rw[hg.block k ql (fun q=>by have:=(h.oe.lt k q.symm).1;omega)]
  exact hbA.block k qg
 refine⟨⟨cell _ _ h.c3,froz _ h.f3⟩,?_,hbB.setCell (p:=⟨pb,3,none⟩) h.hB _⟩
 have hoth:w6.ownsRow B 54 3 v T.1.length (flat3 T.1):=(h.ov.alloc o).kept hg (by
  by_cases q:v.ownBlock=none
  ·exact Or.inl q
  ·right;intro q2;obtain⟨g,hg2⟩:∃ g,v.ownBlock=some g:=Option.ne_none_iff_exists'.1 q
   exact h.dd g hg2 (q2 ▸ hg2))
 have hlen:(T.2++[(x,y,z)]).length=T.2.length+1:=qk
 have hfl:flat3 (T.2++[(x,y,z)])=flat3 T.2++[.int .i64 x,.int .i64 y,.int .i64 z]:=by rw[zb5];rfl
 have hnew:(w6.setCell ⟨pb,3,none⟩ (.slice (some ⟨g6,0,none⟩) (T.2.length+1) k6)).ownsRow B 99 3 (.slice (some ⟨g6,0,none⟩) (T.2.length+1) k6) (T.2++[(x,y,z)]).length (flat3 (T.2++[(x,y,z)])):=by
  rw[hlen,hfl]
  exact ownsRow_setCell_other hO (by simp[Value.ownBlock,hgp]) _
 have holdr:=ownsRow_setCell_other hoth (a:=⟨pb,3,none⟩) h.dv (.slice (some ⟨g6,0,none⟩) (T.2.length+1) k6)
 have hcs:zaf w6 a cs:=h.cells hbB
 have hdd:∀ g,(Value.slice (some ⟨g6,0,none⟩) (T.2.length+1) k6).ownBlock=some g->v.ownBlock≠some g:=by
  intro g q
  simp only[Value.ownBlock,Option.some.injEq] at q
  subst q
  intro q2
  rcases hat with q3|q3
  ·exact h.dd g6 q2 q3
  ·have:=(h.ov.lt g6 q2).2;omega
 exact⟨zkP qi (cell _ _ h.c0),zkP qi (cell _ _ h.c1),zkP qi (cell _ _ h.c2),World.cell?_setCell_same _ _ _ (by rw[cell _ _ h.c3]),by simpa using froz _ h.f2,by simpa using froz _ h.f3,
  hcs.set (fun b off q=>by have:=h.ha b off q;have:=h.hB;omega) _,h.ha,holdr,hnew,h.hB,h.dv,by simp[Value.ownBlock,hgp],fun g q q2=>hdd g q2 q⟩
theorem zbL(a:Tr):zaZ a ([],[])=a:=by simp[zaZ]
theorem zbQ(a b c:Tr):zaZ (zaZ a b) c=zaZ a (zaZ b c):=by simp[zaZ]
theorem zkt(ih:∀ x d wt,(zaE wd cs f x d wt).1.length<=f * wt/\(zaE wd cs f x d wt).2.length<=wt)(x e:Int)(h:Nat) :
  (lvT wd cs (zaE wd cs f) x e h).1.length<=f * h/\(lvT wd cs (zaE wd cs f) x e h).2.length<=h:=by
 unfold lvT
 by_cases h0:h=0
 ·rw[if_pos h0];simp
 ·rw[if_neg h0]
  split
  ·exact ih _ _ _
  ·simp[zde,h0];omega
theorem zhm(wd:Int)(cs:List (Int × Int)):∀ f x d wt,(zaE wd cs f x d wt).1.length<=f * wt/\(zaE wd cs f x d wt).2.length<=wt:=by
 intro f
 induction f with
 | zero=>intro x d wt;simp[zaE]
 | succ f ih =>
  intro x d wt
  simp only[zaE]
  by_cases h0:wt=0
  ·rw[if_pos h0];simp
  ·rw[if_neg h0]
   have e1:(f+1) * wt=f * wt+wt:=Nat.succ_mul f wt
   have hh:f * (wt / 2)+f * (wt / 2)<=f * wt:=by rw[<- Nat.mul_add];exact Nat.mul_le_mul_left f qg
   have l1:=zkt ih x d (wt / 2)
   have l2:=zkt ih x (zaL (kd cs x) d) (wt / 2)
   have l3:=zkt ih x (zaL (kd cs x) d) wt
   unfold zbb
   repeat' split
   all_goals (simp only[zaZ,zde,List.length_append,List.length_cons,List.length_nil,List.nil_append];(repeat' split) <;> (try simp only[List.length_cons,List.length_nil]) <;> omega)
theorem zfj{T:Tr}(h:Wk w B pb wd a c cs v e T)(kind wh:Int)(wt:Nat)(hw:wt<=64)(hl:T.2.length<=1000000) :
  Calls (SqG.prog aLt) 106 #[.pointer (some ⟨pb,0,none⟩),.int .i64 kind,.int .i64 wh,.int .i64 (wt:Int)] w fun r w'=>r=.returned (.tuple #[])/\(∃ v2 e2,Wk w' B pb wd a c cs v2 e2 (zaZ T (zde kind wh wt)))/\Below B w w':=by
 obtain⟨i0,hi,iz0,iz1,iz2⟩:=info_parts (zne (aLt:=aLt))
 have hpb:=h.lt
 have hB:=h.hB
 by_cases h0:wt=0
 ·subst h0
  have hT:zaZ T (zde kind wh 0)=T:=by simp[zde,zaZ]
  rw[hT]
  clear hT
  go_enter (zfx func106),ntmps106
  go_wp2
  exact bodyPost_end (v:=.tuple #[]) (by simp[results,results106,go_sem]) rfl ⟨rfl,⟨v,e,h⟩,Below.refl _ _⟩
 ·have hT:zaZ T (zde kind wh wt)=(T.1,T.2++[(kind,wh,(wt:Int))]):=by simp[zde,zaZ,h0]
  rw[hT]
  clear hT
  have c3:=h.c3
  have hp:(0:Int)<(wt:Int):=qg
  have c3':(w.alloc (.cells #[.int .i64 kind,.int .i64 wh,.int .i64 (wt:Int)] 99)).cell? ⟨pb,3,none⟩=some e:=zad ((Below.refl _ _).alloc (Nat.le_refl _) _) c3
  go_enter (zfx func106),ntmps106
  go_wp2_with (at_builtin;refine wpList_append_lies _ rfl _ _ _ rfl B 99 i0 (.agg #[.int .i64 0,.int .i64 0,.int .i64 0]) 3 24 SqG.underlying48 hi iz0 iz1 iz2 rfl qg e T.2.length (flat3 T.2) rfl (h.oe.alloc _) ⟨w.heap.size,0,none⟩ 1 1 [.int .i64 kind,.int .i64 wh,.int .i64 (wt:Int)] rfl rfl (World.news_of_block (cs:=#[.int .i64 kind,.int .i64 wh,.int .i64 (wt:Int)]) (t:=99) (fr:=(0,0)) (heap_alloc_new w _)) qm qg qp qg ql (w.heap.size+1) qk ?_)
  intro g6 k6 w6 hO6 hg6 hat6 hlt6
  obtain⟨⟨q3,qf⟩,hW7,hb7⟩:=h.ends hO6 hg6 hat6
  clear c3 c3' hO6 hg6 hat6
  go_wp2
  exact bodyPost_end (v:=.tuple #[]) (by simp[results,results106,go_sem]) rfl ⟨rfl,⟨v,_,hW7⟩,hb7⟩
def zhM(f W:Nat)(cs:List (Int × Int))(a:Option Addr)(c B pb:Nat):Prop :=
 ∀(w:World) (v e:Value) (T:Tr) (x d:Int) (wt:Nat),Wk w B pb (W:Int) a c cs v e T->okS cs (x,d)->wt<=64->zas (W:Int) cs f x d wt->T.1.length+f * wt<=1000000->T.2.length+wt<=1000000 ->
  Calls (SqG.prog aLt) 68 #[.pointer (some ⟨pb,0,none⟩),.int .i64 x,.int .i64 d,.int .i64 (wt:Int)] w fun r w'=>r=.returned (.tuple #[])/\(∃ v2 e2,Wk w' B pb (W:Int) a c cs v2 e2 (zaZ T (zaE (W:Int) cs f x d wt)))/\Below B w w'
theorem zij{T:Tr}(S:Siz (W:Int) cs W H)(IH:zhM (aLt:=aLt) f W cs a c B pb)(h:Wk w B pb (W:Int) a c cs v e T)(x d:Int)(hs:okS cs (x,d))(wt:Nat)(hw0:0<wt)(hw:wt<=64)(hE:lvE (W:Int) cs (zas (W:Int) cs f) x d wt)(hl1:T.1.length+f * wt<=1000000)(hl2:T.2.length+wt<=1000000) :
  Calls (SqG.prog aLt) 109 #[.pointer (some ⟨pb,0,none⟩),.int .i64 x,.int .i64 d,.int .i64 (wt:Int)] w fun r w'=>r=.returned (.tuple #[])/\(∃ v2 e2,Wk w' B pb (W:Int) a c cs v2 e2 (zaZ T (lvT (W:Int) cs (zaE (W:Int) cs f) x d wt)))/\Below B w w':=by
 have c0:=h.c0
 have c1:=h.c1
 have hpb:=h.lt
 have hBp:=h.hB
 obtain⟨x2,d2,b2,ev⟩:∃ x2 d2 b2,zbH (W:Int) cs x d=(x2,d2,b2):=⟨_,_,_,rfl⟩
 obtain⟨W',H',r',c',r2,c2',m,b,R⟩:=zqC (W:Int) cs x d S.ok hs.1 hs.2
 have EV:Hid (zbH (W:Int) cs x d=(x2,d2,b2)):=ev
 obtain⟨L,hL⟩:∃ L,lvT (W:Int) cs (zaE (W:Int) cs f) x d wt=L:=⟨_,rfl⟩
 rw[hL]
 have HT:Hid (L=if b2=true then zaE (W:Int) cs f x2 d wt else zde 0 (zcy (W:Int) cs x d) wt):=by
  show _=_
  rw[<- hL]
  unfold lvT;rw[if_neg qg,ev]
 have HR:Hid (Ray (W:Int) cs x d W' H' r' c' r2 c2' m b):=R
 have HN:Hid (b2=true->okS cs (x2,d)/\zas (W:Int) cs f x2 d wt):=by
  intro q
  have q1:(zbH (W:Int) cs x d).2.2=true:=by rw[ev];exact q
  have q2:=zbq q1
  rw[ev] at q2
  refine⟨⟨q2.1,q2.2.1⟩,?_⟩
  rcases hE with q3|q3|q3
  ·omega
  ·rw[q1] at q3;cases q3
  ·rw[ev] at q3;exact q3
 clear ev R hL
 go_enter (zfx func109),ntmps109
 go_wp2_with fail
 refine(zlp HR.out a c _).mono ?_
 rintro r w1 ⟨rfl,hb1⟩
 rw[EV.out]
 unfold zgk
 have hbX:Below w1.heap.size w1 (w1.alloc (.cells #[.int .i64 x2,.int .i64 d2] 67)):=bel
 have hW2:=(h.below hb1).below hbX
 have hB2:Below B w (w1.alloc (.cells #[.int .i64 x2,.int .i64 d2] 67)):=zai (hb1.mono qg) (by have:=hb1.size;omega) hbX
 have hz1:=hb1.size
 have y0:(w1.alloc (.cells #[.int .i64 x2,.int .i64 d2] 67)).cell? ⟨w1.heap.size,0,none⟩=some (.int .i64 x2):=qj
 clear c0 c1 hb1 hbX
 have c0:=hW2.c0
 have c1:=hW2.c1
 cases b2
 ·obtain⟨o,eo⟩:∃ o,zcy (W:Int) cs x d=o:=⟨_,rfl⟩
  have e1:(cs.length:Int)=(W:Int) * (H:Int):=by rw[S.el];simp
  have HO:Hid (ofN W H x d (2 * (W+H))=o):=by
   show _=_
   rw[<- eo,ze5 S x d (by rw[<- e1];exact hs.1) hs.2]
  have HL:Hid (L=zde 0 o wt):=by
   show _=_
   rw[HT.out,if_neg qk,eo]
  clear eo e1
  go_wp2_with fail
  refine(zpj W H a cs.length c _ S.hW S.hH S.el x d).mono ?_
  rintro r w3 ⟨rfl,hb3⟩
  rw[HO.out]
  have hW3:=hW2.below hb3
  have hB3:Below B w w3:=hB2.trans (hb3.mono ql)
  clear hb3 c0 c1 y0
  go_wp2_with fail
  refine(zfj hW3 0 o wt hw qg).mono ?_
  rintro r w4 ⟨rfl,hW4,hb4⟩
  have hB4:=hB3.trans hb4
  go_wp2_with fail
  exact bodyPost_end (v:=.tuple #[]) (by simp[results,results109,go_sem]) rfl ⟨rfl,by rw[HL.out];exact hW4,hB4⟩
 ·have HL:Hid (L=zaE (W:Int) cs f x2 d wt):=by
   show _=_
   rw[HT.out,if_pos rfl]
  obtain⟨hs2,hE2⟩:=HN.out rfl
  go_wp2_with fail
  refine(IH _ v e T x2 d wt hW2 hs2 hw hE2 hl1 hl2).mono ?_
  rintro r w4 ⟨rfl,hW4,hb4⟩
  have hB4:=hB2.trans hb4
  clear c0 c1 y0
  go_wp2_with fail
  exact bodyPost_ret (v:=.tuple #[]) (by simp[results,results109,go_sem]) rfl ⟨rfl,by rw[HL.out];exact hW4,hB4⟩
theorem zhf{T:Tr}(S:Siz (W:Int) cs W H)(IH:zhM (aLt:=aLt) f W cs a c B pb)(h:Wk w B pb (W:Int) a c cs v e T)(x d:Int)(hs:okS cs (x,d))(wt:Nat)(hw:wt<=64)(hE:lvE (W:Int) cs (zas (W:Int) cs f) x d wt)(hl1:T.1.length+f * wt<=1000000)(hl2:T.2.length+wt<=1000000) :
  Calls (SqG.prog aLt) 107 #[.pointer (some ⟨pb,0,none⟩),.int .i64 x,.int .i64 d,.int .i64 (wt:Int)] w fun r w'=>r=.returned (.tuple #[])/\(∃ v2 e2,Wk w' B pb (W:Int) a c cs v2 e2 (zaZ T (lvT (W:Int) cs (zaE (W:Int) cs f) x d wt)))/\Below B w w':=by
 by_cases h0:wt=0
 ·subst h0
  have hT:zaZ T (lvT (W:Int) cs (zaE (W:Int) cs f) x d 0)=T:=by unfold lvT;rw[if_pos rfl];exact zbL T
  rw[hT]
  clear hT
  go_enter (zfx func107),ntmps107
  go_wp2
  exact bodyPost_end (v:=.tuple #[]) (by simp[results,results107,go_sem]) rfl ⟨rfl,⟨v,e,h⟩,Below.refl _ _⟩
 ·have hp:(0:Int)<(wt:Int):=qg
  go_enter (zfx func107),ntmps107
  go_wp2_with fail
  refine(zij S IH h x d hs wt qg hw hE hl1 hl2).mono ?_
  rintro r w4 ⟨rfl,hW4,hb4⟩
  go_wp2_with fail
  exact bodyPost_end (v:=.tuple #[]) (by simp[results,results107,go_sem]) rfl ⟨rfl,hW4,hb4⟩
theorem zbN(wd:Int)(cs:List (Int × Int))(f:Nat)(x d:Int):zaE wd cs f x d 0=([],[]):=by
 cases f with
 | zero=>rfl
 | succ f=>simp[zaE]
theorem ze9(a b:Tr):(zaZ a b).1.length=a.1.length+b.1.length/\(zaZ a b).2.length=a.2.length+b.2.length:=by simp[zaZ]
theorem zg3(k x:Int)(wt:Nat):(zde k x wt).1.length=0/\(zde k x wt).2.length<=wt/\(zde k x wt).2.length<=1:=by
 unfold zde
 by_cases h:wt=0
 ·simp[h]
 ·simp[h];omega
theorem zhV{T:Tr}(h:Wk w B pb (W:Int) a c cs v e T)(x d:Int) :
  Calls (SqG.prog aLt) 68 #[.pointer (some ⟨pb,0,none⟩),.int .i64 x,.int .i64 d,.int .i64 ((0:Nat):Int)] w fun r w'=>r=.returned (.tuple #[])/\(∃ v2 e2,Wk w' B pb (W:Int) a c cs v2 e2 (zaZ T (zaE (W:Int) cs f x d 0)))/\Below B w w':=by
 rw[zbN,zbL]
 go_enter (zfx func68),ntmps68
 go_wp2
 exact bodyPost_ret (v:=.tuple #[]) (by simp[results,results68,go_sem]) rfl ⟨rfl,⟨v,e,h⟩,Below.refl _ _⟩
theorem zmN(S:Siz (W:Int) cs W H)(IH:zhM (aLt:=aLt) f W cs a c B pb):zhM (aLt:=aLt) (f+1) W cs a c B pb:=by
 intro w v e T x d wt h hs hw hE hl1 hl2
 by_cases h0:wt=0
 ·subst h0
  exact zhV h x d
 obtain⟨i0,hi,iz0,iz1,iz2⟩:=info_parts (zh9 (aLt:=aLt))
 have hpb:=h.lt
 have hBp:=h.hB
 obtain⟨X,rfl⟩:=Int.eq_ofNat_of_zero_le hs.1.1
 have hX:X<cs.length:=by have:=hs.1.2;simp only at this;omega
 have hd:=hs.2
 simp only at hd
 obtain⟨k,hk⟩:∃ k,kd cs (X:Int)=k:=⟨_,rfl⟩
 obtain⟨hf,ehf⟩:∃ hf:Nat,wt / 2=hf:=⟨_,rfl⟩
 obtain⟨m1,em1⟩:∃ m:Nat,wt - hf=m:=⟨_,rfl⟩
 obtain⟨m2,em2⟩:∃ m:Nat,wt - 2 * hf=m:=⟨_,rfl⟩
 obtain⟨tk,etk⟩:∃ t,zaL k d=t:=⟨_,rfl⟩
 have htk:0<=tk/\tk<=3:=by rw[<- etk];exact zdL hd
 have q1:(wt:Int).tdiv 2=(hf:Int):=by rw[Int.tdiv_eq_ediv_of_nonneg qg];omega
 have q2:(wt:Int) / 2=(hf:Int):=qg
 have q3:(wt:Int) - (hf:Int)=(m1:Int):=qg
 have q4:(wt:Int) - 2 * (hf:Int)=(m2:Int):=qg
 have hhf:hf<=64/\m1<=64/\m2<=1:=qg
 have hfl:f * hf+f * hf<=f * wt:=by rw[<- Nat.mul_add];exact Nat.mul_le_mul_left f qg
 have hfs:(f+1) * wt=f * wt+wt:=Nat.succ_mul f wt
 obtain⟨L,hL⟩:∃ L,zaZ T (zaE (W:Int) cs (f+1) (X:Int) d wt)=L:=⟨_,rfl⟩
 rw[hL]
 have HL0:Hid (L=zaZ (T.1++[((X:Int),d,(wt:Int))],T.2) (zbb (W:Int) cs (zaE (W:Int) cs f) (X:Int) d wt)):=by
  show _=_
  rw[<- hL]
  simp only[zaE]
  rw[if_neg h0]
  simp[zaZ]
 have HE:Hid (zas (W:Int) cs (f+1) (X:Int) d wt):=hE
 have HK:Hid (kd cs (X:Int)=k):=hk
 have HF:Hid (wt / 2=hf):=ehf
 have HM1:Hid (wt - hf=m1):=em1
 have HM2:Hid (wt - 2 * hf=m2):=em2
 have HTK:Hid (zaL k d=tk):=etk
 have HFL:Hid (f * hf+f * hf<=f * wt):=hfl
 have HFS:Hid ((f+1) * wt=f * wt+wt):=hfs
 have HL1:Hid (T.1.length+(f+1) * wt<=1000000):=hl1
 have hS1:okS cs ((X:Int),d):=hs
 have hS2:okS cs ((X:Int),tk):=⟨hs.1,htk⟩
 have c2:=h.c2
 have c2':(w.alloc (.cells #[.int .i64 (X:Int),.int .i64 d,.int .i64 (wt:Int)] 54)).cell? ⟨pb,2,none⟩=some v:=zad ((Below.refl _ _).alloc (Nat.le_refl _) _) c2
 have hw1:((wt:Int) == 0)=false:=ql
 have hT1:T.1.length<=1000000:=qg
 clear hL hE hk ehf em1 em2 etk hfl hfs hl1 hs
 go_enter (zfx func68),ntmps68
 go_wp2_with (at_builtin;refine wpList_append_lies _ rfl _ _ _ rfl B 54 i0 (.agg #[.int .i64 0,.int .i64 0,.int .i64 0]) 3 24 SqG.underlying47 hi iz0 iz1 iz2 rfl qg v T.1.length (flat3 T.1) rfl (h.ov.alloc _) ⟨w.heap.size,0,none⟩ 1 1 [.int .i64 (X:Int),.int .i64 d,.int .i64 (wt:Int)] rfl rfl (World.news_of_block (cs:=#[.int .i64 (X:Int),.int .i64 d,.int .i64 (wt:Int)]) (t:=54) (fr:=(0,0)) (heap_alloc_new w _)) qm qg qp qg ql (w.heap.size+1) qk ?_)
 intro g6 k6 w6 hO6 hg6 hat6 hlt6
 obtain⟨⟨r2,rf⟩,hW7,hb7⟩:=h.visit hO6 hg6 hat6
 have c1:=hW7.c1
 obtain⟨b,off,ea,hcell⟩:∃ b off,a=some ⟨b,off,none⟩/\(w6.setCell ⟨pb,2,none⟩ (.slice (some ⟨g6,0,none⟩) (T.1.length+1) k6)).cell? ⟨b,off+X * 2,none⟩=some (.int .i64 k):=by
  rcases hW7.hC with q|⟨b,off,q,_,hc⟩
  ·rw[q] at hX;simp at hX
  ·refine⟨b,off,q,?_⟩
   rw[(hc X hX).1,<- HK.out]
   simp[kd]
 subst ea
 clear c2 c2' hO6 hg6 hat6
 have hlt:(X:Int)<(cs.length:Int):=qg
 by_cases k1:k=1
 ·subst k1
  have HL:Hid (L=zaZ (T.1++[((X:Int),d,(wt:Int))],T.2) (zde 1 (X:Int) wt)):=by
   show _=_
   rw[HL0.out];unfold zbb;rw[HK.out,if_pos rfl]
  go_wp2_with fail
  refine(zfj hW7 1 (X:Int) wt hw (by show T.2.length<=_;omega)).mono ?_
  rintro r w8 ⟨rfl,⟨v_w8,e_w8,hW_w8⟩,hb_w8⟩
  have hB_w8:=hb7.trans hb_w8
  go_wp2_with fail
  exact bodyPost_end (v:=.tuple #[]) (by simp[results,results68,go_sem]) rfl ⟨rfl,⟨_,_,by rw[HL.out];exact hW_w8⟩,hB_w8⟩
 by_cases k7:k=7
 ·subst k7
  have HL:Hid (L=zaZ (T.1++[((X:Int),d,(wt:Int))],T.2) (zde 2 (X:Int) wt)):=by
   show _=_
   rw[HL0.out];unfold zbb;rw[HK.out,if_neg qg,if_pos rfl]
  go_wp2_with fail
  refine(zfj hW7 2 (X:Int) wt hw (by show T.2.length<=_;omega)).mono ?_
  rintro r w8 ⟨rfl,⟨v_w8,e_w8,hW_w8⟩,hb_w8⟩
  have hB_w8:=hb7.trans hb_w8
  go_wp2_with fail
  exact bodyPost_end (v:=.tuple #[]) (by simp[results,results68,go_sem]) rfl ⟨rfl,⟨_,_,by rw[HL.out];exact hW_w8⟩,hB_w8⟩
 by_cases k6':k=6
 ·subst k6'
  have HL:Hid (L=zaZ (T.1++[((X:Int),d,(wt:Int))],T.2) (zaZ (zde 3 (X:Int) m1) (lvT (W:Int) cs (zaE (W:Int) cs f) (X:Int) d hf))):=by
   show _=_
   rw[HL0.out];unfold zbb;rw[HK.out,if_neg qg,if_neg qg,if_pos rfl,HF.out,HM1.out]
  have hE1:lvE (W:Int) cs (zas (W:Int) cs f) (X:Int) d hf:=by
   rcases HE.out with q|q|⟨_,q⟩|⟨q,_⟩|⟨q,_⟩
   ·omega
   ·rw[HK.out] at q;omega
   ·rw[HF.out] at q;exact q
   ·rw[HK.out] at q;omega
   ·rw[HK.out] at q;exact absurd rfl q.2.2.1
  have z1:=zg3 3 (X:Int) m1
  have z2:=ze9 (T.1++[((X:Int),d,(wt:Int))],T.2) (zde 3 (X:Int) m1)
  simp only[List.length_append,List.length_cons,List.length_nil] at z2
  have y1:=HFL.out
  have y2:=HFS.out
  have y3:=HL1.out
  clear y1 y2 y3 z1 z2
  go_wp2_with fail
  refine(zfj hW7 3 (X:Int) m1 hhf.2.1 (by show T.2.length<=_;omega)).mono ?_
  rintro r w8 ⟨rfl,⟨v_w8,e_w8,hW_w8⟩,hb_w8⟩
  have hB_w8:=hb7.trans hb_w8
  have z1:=zg3 3 (X:Int) m1
  have z2:=ze9 (T.1++[((X:Int),d,(wt:Int))],T.2) (zde 3 (X:Int) m1)
  simp only[List.length_append,List.length_cons,List.length_nil] at z2
  have y1:=HFL.out
  have y2:=HFS.out
  have y3:=HL1.out
  go_wp2_with fail
  refine(zhf S IH hW_w8 (X:Int) d hS1 hf hhf.1 hE1 qg (by have:=HM1.out;omega)).mono ?_
  rintro r w9 ⟨rfl,⟨v_w9,e_w9,hW_w9⟩,hb_w9⟩
  have hB_w9:=hB_w8.trans hb_w9
  go_wp2_with fail
  exact bodyPost_end (v:=.tuple #[]) (by simp[results,results68,go_sem]) rfl ⟨rfl,⟨_,_,by rw[HL.out,<- zbQ];exact hW_w9⟩,hB_w9⟩
 by_cases k45:k=4\/k=5
 ·have HL:Hid (L=zaZ (T.1++[((X:Int),d,(wt:Int))],T.2) (zaZ (zde 3 (X:Int) m2) (zaZ (lvT (W:Int) cs (zaE (W:Int) cs f) (X:Int) d hf) (lvT (W:Int) cs (zaE (W:Int) cs f) (X:Int) tk hf)))):=by
   show _=_
   rw[HL0.out];unfold zbb;rw[HK.out,if_neg qg,if_neg qg,if_neg qg,if_pos k45,HF.out,HM2.out,HTK.out]
  have hE12:lvE (W:Int) cs (zas (W:Int) cs f) (X:Int) d hf/\lvE (W:Int) cs (zas (W:Int) cs f) (X:Int) tk hf:=by
   rcases HE.out with q|q|⟨q,_⟩|⟨_,q,q2⟩|⟨q,_⟩
   ·omega
   ·rw[HK.out] at q;omega
   ·rw[HK.out] at q;omega
   ·rw[HF.out] at q q2;rw[HK.out,HTK.out] at q2;exact⟨q,q2⟩
   ·rw[HK.out] at q;rcases k45 with z|z;exact absurd z q.2.2.2.1;exact absurd z q.2.2.2.2
  have l1:=zkt (zhm (W:Int) cs f) (X:Int) d hf
  rcases k45 with rfl|rfl
  all_goals
   go_wp2_with fail
   refine(zfj hW7 3 (X:Int) m2 qg (by show T.2.length<=_;omega)).mono ?_
   rintro r w8 ⟨rfl,⟨v_w8,e_w8,hW_w8⟩,hb_w8⟩
   have hB_w8:=hb7.trans hb_w8
   have z1:=zg3 3 (X:Int) m2
   have z2:=ze9 (T.1++[((X:Int),d,(wt:Int))],T.2) (zde 3 (X:Int) m2)
   simp only[List.length_append,List.length_cons,List.length_nil] at z2
   have y1:=HFL.out
   have y2:=HFS.out
   have y3:=HL1.out
   go_wp2_with fail
   refine(zhf S IH hW_w8 (X:Int) d hS1 hf hhf.1 hE12.1 qg (by have:=HM2.out;omega)).mono ?_
   rintro r w9 ⟨rfl,⟨v_w9,e_w9,hW_w9⟩,hb_w9⟩
   have hB_w9:=hB_w8.trans hb_w9
   have z3:=ze9 (zaZ (T.1++[((X:Int),d,(wt:Int))],T.2) (zde 3 (X:Int) m2)) (lvT (W:Int) cs (zaE (W:Int) cs f) (X:Int) d hf)
   go_wp2_with fail
   refine(zc4 _ _ _).mono ?_
   rintro r w' ⟨rfl,rfl⟩
   rw[HTK.out]
   go_wp2_with fail
   refine(zhf S IH hW_w9 (X:Int) tk hS2 hf hhf.1 hE12.2 qg (by have:=HM2.out;omega)).mono ?_
   rintro r w10 ⟨rfl,⟨v_w10,e_w10,hW_w10⟩,hb_w10⟩
   have hB_w10:=hB_w9.trans hb_w10
   go_wp2_with fail
   exact bodyPost_end (v:=.tuple #[]) (by simp[results,results68,go_sem]) rfl ⟨rfl,⟨_,_,by rw[HL.out,<- zbQ,<- zbQ];exact hW_w10⟩,hB_w10⟩
 ·have HL:Hid (L=zaZ (T.1++[((X:Int),d,(wt:Int))],T.2) (lvT (W:Int) cs (zaE (W:Int) cs f) (X:Int) tk wt)):=by
   show _=_
   rw[HL0.out];unfold zbb;rw[HK.out,if_neg k1,if_neg k7,if_neg k6',if_neg k45,HTK.out]
  have hE1:lvE (W:Int) cs (zas (W:Int) cs f) (X:Int) tk wt:=by
   rcases HE.out with q|q|⟨q,_⟩|⟨q,_⟩|⟨_,q⟩
   ·omega
   ·rw[HK.out] at q;rcases q with z|z;exact absurd z k1;exact absurd z k7
   ·rw[HK.out] at q;exact absurd q k6'
   ·rw[HK.out] at q;exact absurd q k45
   ·rw[HK.out,HTK.out] at q;exact q
  have n1:(k == 1)=false:=by simp[k1]
  have n7:(k == 7)=false:=by simp[k7]
  have n6:(k == 6)=false:=by simp[k6']
  have n4:(k == 4)=false:=by simp;exact fun q=>k45 (Or.inl q)
  have n5:(k == 5)=false:=by simp;exact fun q=>k45 (Or.inr q)
  clear k1 k7 k6' k45
  go_wp2_with fail
  refine(zc4 _ _ _).mono ?_
  rintro r w' ⟨rfl,rfl⟩
  rw[HTK.out]
  have y2:=HFS.out
  have y3:=HL1.out
  go_wp2_with fail
  refine(zij S IH hW7 (X:Int) tk hS2 wt qg hw hE1 (by simp only[List.length_append,List.length_cons,List.length_nil];omega) (by show T.2.length+wt<=_;omega)).mono ?_
  rintro r w8 ⟨rfl,⟨v_w8,e_w8,hW_w8⟩,hb_w8⟩
  have hB_w8:=hb7.trans hb_w8
  go_wp2_with fail
  exact bodyPost_end (v:=.tuple #[]) (by simp[results,results68,go_sem]) rfl ⟨rfl,⟨_,_,by rw[HL.out];exact hW_w8⟩,hB_w8⟩
theorem zoR(S:Siz (W:Int) cs W H):∀ f,zhM (aLt:=aLt) f W cs a c B pb:=by
 intro f
 induction f with
 | zero =>
  intro w v e T x d wt h hs hw hE _ _
  have q:wt=0:=hE
  subst q
  exact zhV h x d
 | succ f ih=>exact zmN S ih
def zaP(wd:Int)(cs:List (Int × Int))(k:Int):Tr:=if inS wd cs k=true then zaE wd cs 707 (zbT wd cs k).1 (zbT wd cs k).2.1 64 else ([],[])
theorem ziw{g:Nat}{t:TypeId}(hB:B<=g)(hg:w.heap[g]?=some (.cells #[] t (0,0))):w.ownsRow B t 3 (.slice (some ⟨g,0,none⟩) 0 0) 0 [] :=
 ⟨rfl,Or.inr ⟨g,0,#[],rfl,hB,hg,Nat.le_refl _,qp,rfl,rfl⟩⟩
theorem zcS(w:World)(o:Obj)(n:Nat)(hn:w.heap.size=n):(w.alloc o).heap[n]?=some o:=by
 subst hn
 exact heap_alloc_new w o
theorem zql(w:World)(wd:Int)(a:Option Addr)(cap:Nat)(cs:List (Int × Int))(h:zaf w a cs)(ha:∀ b off,a=some ⟨b,off,none⟩->b<w.heap.size) :
  Wk ((((w.alloc (.cells #[.int .i64 wd,.slice a cs.length cap] 25)).alloc (.cells #[] 54)).alloc (.cells #[] 99)).alloc (.cells #[.int .i64 wd,.slice a cs.length cap,.slice (some ⟨w.heap.size+1,0,none⟩) 0 0,.slice (some ⟨w.heap.size+1+1,0,none⟩) 0 0] 80)) w.heap.size (w.heap.size+1+1+1) wd a cap cs
   (.slice (some ⟨w.heap.size+1,0,none⟩) 0 0) (.slice (some ⟨w.heap.size+1+1,0,none⟩) 0 0) ([],[]):=by
 obtain⟨u1,e1⟩:∃ u,u=w.alloc (.cells #[.int .i64 wd,.slice a cs.length cap] 25):=⟨_,rfl⟩
 obtain⟨u2,e2⟩:∃ u,u=u1.alloc (.cells #[] 54):=⟨_,rfl⟩
 obtain⟨u3,e3⟩:∃ u,u=u2.alloc (.cells #[] 99):=⟨_,rfl⟩
 obtain⟨u4,e4⟩:∃ u,u=u3.alloc (.cells #[.int .i64 wd,.slice a cs.length cap,.slice (some ⟨w.heap.size+1,0,none⟩) 0 0,.slice (some ⟨w.heap.size+1+1,0,none⟩) 0 0] 80):=⟨_,rfl⟩
 have s1:u1.heap.size=w.heap.size+1:=by rw[e1];simp
 have s2:u2.heap.size=w.heap.size+1+1:=by rw[e2];simp[s1]
 have s3:u3.heap.size=w.heap.size+1+1+1:=by rw[e3];simp[s2]
 rw[<- e1,<- e2,<- e3,<- e4]
 have b1:Below w.heap.size w u1:=by rw[e1];exact(Below.refl _ _).alloc (Nat.le_refl _) _
 have b2:Below u1.heap.size u1 u2:=by rw[e2];exact(Below.refl _ _).alloc (Nat.le_refl _) _
 have b3:Below u2.heap.size u2 u3:=by rw[e3];exact(Below.refl _ _).alloc (Nat.le_refl _) _
 have b4:Below u3.heap.size u3 u4:=by rw[e4];exact(Below.refl _ _).alloc (Nat.le_refl _) _
 have bT:Below w.heap.size w u4:=zai (zai (zai b1 qg b2) qg b3) qg b4
 have hv:u4.heap[w.heap.size+1]?=some (.cells #[] 54 (0,0)):=by
  rw[b4.block _ qg,b3.block _ qg,e2]
  exact zcS u1 _ _ s1
 have he:u4.heap[w.heap.size+1+1]?=some (.cells #[] 99 (0,0)):=by
  rw[b4.block _ qg,e3]
  exact zcS u2 _ _ s2
 have hx:u4.heap[w.heap.size+1+1+1]?=some (.cells #[.int .i64 wd,.slice a cs.length cap,.slice (some ⟨w.heap.size+1,0,none⟩) 0 0,.slice (some ⟨w.heap.size+1+1,0,none⟩) 0 0] 80 (0,0)):=by
  rw[e4]
  exact zcS u3 _ _ s3
 exact⟨by rw[cell_of_row _ _ _ _ _ _ hx];rfl,by rw[cell_of_row _ _ _ _ _ _ hx];rfl,by rw[cell_of_row _ _ _ _ _ _ hx];rfl,by rw[cell_of_row _ _ _ _ _ _ hx];rfl,
  frozen_of_row _ _ _ _ _ hx,frozen_of_row _ _ _ _ _ hx,h.below bT,ha,ziw qg hv,ziw qg he,qg,
  by simp[Value.ownBlock],by simp[Value.ownBlock],by simp[Value.ownBlock]⟩
theorem znh(S:Siz wd cs W H)(a:Option Addr)(cap:Nat)(w:World)(h:zaf w a cs)(k:Int)(hk:inS wd cs k=true) :
  Calls (SqG.prog aLt) 41 #[.agg #[.int .i64 wd,.slice a cs.length cap],.int .i64 k] w fun r w'=>∃ pb v e,r=.returned (.pointer (some ⟨pb,0,none⟩))/\Wk w' w.heap.size pb wd a cap cs v e (zaP wd cs k)/\Below w.heap.size w w':=by
 obtain rfl:=S.ew
 have hW:=S.hW
 have hH:=S.hH
 have hpos:1<=cs.length:=by rw[S.el];exact Nat.mul_pos hW.1 hH.1
 have ha:∀ b off,a=some ⟨b,off,none⟩->b<w.heap.size:=by
  intro b off e2
  rcases h with q0|⟨b',off',e,hbl,_⟩
  ·rw[q0] at hpos;simp at hpos
  ·rw[e] at e2
   simp only[Option.some.injEq,Addr.mk.injEq] at e2
   omega
 obtain⟨L,hL⟩:∃ L,zaP (W:Int) cs k=L:=⟨_,rfl⟩
 rw[hL]
 have hk2:=hk
 simp only[inS,decide_eq_true_eq,S.em] at hk2
 obtain⟨K,rfl⟩:=Int.eq_ofNat_of_zero_le hk2.1
 obtain⟨x,d,hs⟩:∃ x d,zds (W:Int) (H:Int) (K:Int)=(x,d):=⟨_,_,rfl⟩
 have hr:zbT (W:Int) cs (K:Int)=(x,d,true):=by rw[zd4 S K qg,hs]
 obtain⟨hok,hE⟩:=zcQ hr
 have HL:Hid (zaE (W:Int) cs 707 x d 64=L):=by
  show _=_
  rw[<- hL]
  unfold zaP
  rw[if_pos hk,hr]
 have HSR:Hid (zds (W:Int) (H:Int) (K:Int)=(x,d)):=hs
 have hK19:0<=(K:Int)/\(K:Int)<=19:=qg
 clear hL hk hk2 hs hr
 go_enter (zfx func41),ntmps41
 go_wp2_with fail
 obtain⟨u,hu⟩:∃ u,u=(((w.alloc (.cells #[.int .i64 (W:Int),.slice a cs.length cap] 25)).alloc (.cells #[] 54)).alloc (.cells #[] 99)).alloc (.cells #[.int .i64 (W:Int),.slice a cs.length cap,.slice (some ⟨w.heap.size+1,0,none⟩) 0 0,.slice (some ⟨w.heap.size+1+1,0,none⟩) 0 0] 80):=⟨_,rfl⟩
 have hW0:=zql w (W:Int) a cap cs h ha
 have hB0:Below w.heap.size w u:=by rw[hu];exact bel
 rw[<- hu] at hW0 ⊢
 clear hu
 refine(zif W H a cs.length cap _ hW hH S.el (K:Int) hK19 x d HSR.out).mono ?_
 rintro r w1 ⟨rfl,hb1⟩
 have hbX:Below w1.heap.size w1 (w1.alloc (.cells #[.int .i64 x,.int .i64 d] 67)):=bel
 have hz1:=hb1.size
 have hW2:=(hW0.below hb1).below hbX
 have hB2:=zai (zai hB0 hB0.size hb1) (by have:=hB0.size;omega) hbX
 have y0:(w1.alloc (.cells #[.int .i64 x,.int .i64 d] 67)).cell? ⟨w1.heap.size,0,none⟩=some (.int .i64 x):=qj
 have y1:(w1.alloc (.cells #[.int .i64 x,.int .i64 d] 67)).cell? ⟨w1.heap.size,1,none⟩=some (.int .i64 d):=qj
 clear hb1 hbX hW0 hB0
 go_wp2_with fail
 refine(zoR S 707 _ _ _ ([],[]) x d 64 hW2 hok qg hE qk qk).mono ?_
 rintro r w3 ⟨rfl,⟨v2,e2,hW3⟩,hb3⟩
 have hT:zaZ ([],[]) (zaE (W:Int) cs 707 x d 64)=L:=by rw[HL.out];simp[zaZ]
 rw[hT] at hW3
 have hB3:=hB2.trans hb3
 clear y0 y1 hT
 go_wp2_with fail
 go_ret
 exact⟨_,v2,e2,rfl,hW3,hB3⟩
