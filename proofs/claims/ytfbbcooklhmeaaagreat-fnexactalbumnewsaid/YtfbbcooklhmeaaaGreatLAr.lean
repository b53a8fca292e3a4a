/- Of the proof: PJj -/
import Derived.Test.YtfbbcooklhmeaaaGreatLAq
set_option maxHeartbeats 400000
set_option linter.unusedVariables false
namespace Go.Proofs.YtfbbcooklhmeaaaGreat
variable {d e k wd x:Int} {s t:Int × Int} {go go':Int->Int->Nat->Prop} {cs:List (Int × Int)}
namespace Sp
variable {aLt:Nat->Func->Func}
open Go.RowKit
def zcz (k:Int):Nat:=if k=2\/k=4 then 127 else if k=3\/k=5 then 128 else 126
def ziq (d:Int):Int:=if d=0\/d=2 then d + 1 else d - 1
def zaN (k d:Int):Int:=if d < 0\/3 < d then -1 else if k=2\/k=4 then ziq d else if k=3\/k=5 then 3 - d else d
theorem zjI (k:Int) (h:k < 0\/7 < k) (w:World) :
  Calls (SqG.prog aLt) 119 #[.int .i64 k] w fun e w'=>e=.returned (.func (.func (zcz k)) #[] #[])/\Below w.heap.size w w':=by
 have ht:zcz k=126:=by unfold zcz; rw [if_neg (by omega),if_neg (by omega)]
 rw [ht]
 rcases h with h | h
 all_goals
  go_enter SqG.func119,Tryz.ntmps119
  go_wp2
  go_ret
  exact ⟨rfl,bel⟩
theorem zo8 (w:World) :
  Calls (SqG.prog aLt) 119 #[.int .i64 0] w fun e w'=>e=.returned (.func (.func (zcz 0)) #[] #[])/\Below w.heap.size w w':=by
 go_enter SqG.func119,Tryz.ntmps119
 go_wp2
 go_ret
 exact ⟨rfl,bel⟩
theorem zo9 (w:World) :
  Calls (SqG.prog aLt) 119 #[.int .i64 1] w fun e w'=>e=.returned (.func (.func (zcz 1)) #[] #[])/\Below w.heap.size w w':=by
 go_enter SqG.func119,Tryz.ntmps119
 go_wp2
 go_ret
 exact ⟨rfl,bel⟩
theorem zpa (w:World) :
  Calls (SqG.prog aLt) 119 #[.int .i64 2] w fun e w'=>e=.returned (.func (.func (zcz 2)) #[] #[])/\Below w.heap.size w w':=by
 go_enter SqG.func119,Tryz.ntmps119
 go_wp2
 go_ret
 exact ⟨rfl,bel⟩
theorem zpb (w:World) :
  Calls (SqG.prog aLt) 119 #[.int .i64 3] w fun e w'=>e=.returned (.func (.func (zcz 3)) #[] #[])/\Below w.heap.size w w':=by
 go_enter SqG.func119,Tryz.ntmps119
 go_wp2
 go_ret
 exact ⟨rfl,bel⟩
theorem zpc (w:World) :
  Calls (SqG.prog aLt) 119 #[.int .i64 4] w fun e w'=>e=.returned (.func (.func (zcz 4)) #[] #[])/\Below w.heap.size w w':=by
 go_enter SqG.func119,Tryz.ntmps119
 go_wp2
 go_ret
 exact ⟨rfl,bel⟩
theorem zpd (w:World) :
  Calls (SqG.prog aLt) 119 #[.int .i64 5] w fun e w'=>e=.returned (.func (.func (zcz 5)) #[] #[])/\Below w.heap.size w w':=by
 go_enter SqG.func119,Tryz.ntmps119
 go_wp2
 go_ret
 exact ⟨rfl,bel⟩
theorem zpe (w:World) :
  Calls (SqG.prog aLt) 119 #[.int .i64 6] w fun e w'=>e=.returned (.func (.func (zcz 6)) #[] #[])/\Below w.heap.size w w':=by
 go_enter SqG.func119,Tryz.ntmps119
 go_wp2
 go_ret
 exact ⟨rfl,bel⟩
theorem zpf (w:World) :
  Calls (SqG.prog aLt) 119 #[.int .i64 7] w fun e w'=>e=.returned (.func (.func (zcz 7)) #[] #[])/\Below w.heap.size w w':=by
 go_enter SqG.func119,Tryz.ntmps119
 go_wp2
 go_ret
 exact ⟨rfl,bel⟩
theorem zlD (k:Int) (w:World) :
  Calls (SqG.prog aLt) 119 #[.int .i64 k] w fun e w'=>e=.returned (.func (.func (zcz k)) #[] #[])/\Below w.heap.size w w':=by
 by_cases h:k < 0\/7 < k
 ·exact zjI k h w
 ·rcases (show k=0\/k=1\/k=2\/k=3\/k=4\/k=5\/k=6\/k=7 by omega) with rfl | rfl | rfl | rfl | rfl | rfl | rfl | rfl
  ·exact zo8 w
  ·exact zo9 w
  ·exact zpa w
  ·exact zpb w
  ·exact zpc w
  ·exact zpd w
  ·exact zpe w
  ·exact zpf w
theorem zfS (k:Int) (n:Nat) (h:zcz k=n) (w:World) :
  Calls (SqG.prog aLt) 119 #[.int .i64 k] w fun e w'=>e=.returned (.func (.func n) #[] #[])/\Below w.heap.size w w':=by
 rw [<- h]
 exact zlD k w
theorem ziC (k d:Int) (h:d < 0\/3 < d):zaN k d=-1:=by unfold zaN; rw [if_pos h]
theorem zdb (k d:Int) (h0:0<=d) (h3:d<=3):zaN k d=if k=2\/k=4 then ziq d else if k=3\/k=5 then 3 - d else d:=by unfold zaN; rw [if_neg (by omega)]
theorem ziy (d:Int) (w:World) :
  Calls (SqG.prog aLt) 126 #[.int .i64 d] w fun e w'=>e=.returned (.int .i64 d)/\w'=w:=by
 go_enter SqG.func126,Tryz.ntmps126
 go_wp2
 go_ret
 exact ⟨rfl,rfl⟩
theorem ziQ (d:Int) (h0:0<=d) (h3:d<=3) (w:World) :
  Calls (SqG.prog aLt) 127 #[.int .i64 d] w fun e w'=>e=.returned (.int .i64 (ziq d))/\w'=w:=by
 rcases (show d=0\/d=1\/d=2\/d=3 by omega) with rfl | rfl | rfl | rfl
 all_goals
  go_enter SqG.func127,Tryz.ntmps127
  go_wp2
  go_ret
  exact ⟨rfl,rfl⟩
theorem zkD (d:Int) (h0:0<=d) (h3:d<=3) (w:World) :
  Calls (SqG.prog aLt) 128 #[.int .i64 d] w fun e w'=>e=.returned (.int .i64 (3 - d))/\w'=w:=by
 rcases (show d=0\/d=1\/d=2\/d=3 by omega) with rfl | rfl | rfl | rfl
 all_goals
  go_enter SqG.func128,Tryz.ntmps128
  go_wp2
  go_ret
  exact ⟨rfl,rfl⟩
theorem zfp (k d:Int) (w:World) :
  Calls (SqG.prog aLt) 107 #[.int .i64 k,.int .i64 d] w fun e w'=>e=.returned (.int .i64 (zaN k d))/\Below w.heap.size w w':=by
 by_cases hd:d < 0\/3 < d
 ·rw [ziC k d hd]
  have hi:inB d 0 3=false:=by simp [inB]; omega
  clear hd
  go_enter SqG.func107,Tryz.ntmps107
  go_wp2_with fail
  refine (zbp _ _).mono ?_
  rintro e w' ⟨rfl,rfl⟩
  go_wp2
  go_ret
  exact ⟨rfl,bel⟩
 ·have h0:0<=d:=by omega
  have h3:d<=3:=by omega
  have hi:inB d 0 3=true:=by simp [inB,h0,h3]
  rw [zdb k d h0 h3]
  by_cases h24:k=2\/k=4
  ·have ht:zcz k=127:=by unfold zcz; rw [if_pos h24]
   rw [if_pos h24]
   clear h24 hd
   go_enter SqG.func107,Tryz.ntmps107
   go_wp2_with fail
   refine (zbp _ _).mono ?_
   rintro e w' ⟨rfl,rfl⟩
   go_wp2_with fail
   refine (zfS k _ ht _).mono ?_
   rintro e w1 ⟨rfl,hb⟩
   go_wp2_with fail
   skip
   refine (ziQ d h0 h3 _).mono ?_
   rintro e w' ⟨rfl,rfl⟩
   go_wp2_with fail
   go_ret
   exact ⟨rfl,by first | exact hb | exact hb.drew⟩
  ·rw [if_neg h24]
   by_cases h35:k=3\/k=5
   ·have ht:zcz k=128:=by unfold zcz; rw [if_neg h24,if_pos h35]
    rw [if_pos h35]
    clear h24 h35 hd
    go_enter SqG.func107,Tryz.ntmps107
    go_wp2_with fail
    refine (zbp _ _).mono ?_
    rintro e w' ⟨rfl,rfl⟩
    go_wp2_with fail
    refine (zfS k _ ht _).mono ?_
    rintro e w1 ⟨rfl,hb⟩
    go_wp2_with fail
    skip
    refine (zkD d h0 h3 _).mono ?_
    rintro e w' ⟨rfl,rfl⟩
    go_wp2_with fail
    go_ret
    exact ⟨rfl,by first | exact hb | exact hb.drew⟩
   ·have ht:zcz k=126:=by unfold zcz; rw [if_neg h24,if_neg h35]
    rw [if_neg h35]
    clear h24 h35 hd
    go_enter SqG.func107,Tryz.ntmps107
    go_wp2_with fail
    refine (zbp _ _).mono ?_
    rintro e w' ⟨rfl,rfl⟩
    go_wp2_with fail
    refine (zfS k _ ht _).mono ?_
    rintro e w1 ⟨rfl,hb⟩
    go_wp2_with fail
    skip
    refine (ziy d _).mono ?_
    rintro e w' ⟨rfl,rfl⟩
    go_wp2_with fail
    go_ret
    exact ⟨rfl,by first | exact hb | exact hb.drew⟩
theorem zcT (k d:Int) (w:World) :
  Calls (SqG.prog aLt) 94 #[.int .i64 k,.int .i64 d] w fun e w'=>e=.returned (.int .i64 (zaN k d))/\w'=w:=by
 by_cases hd:d < 0\/3 < d
 ·rw [ziC k d hd]
  have hi:inB d 0 3=false:=by simp [inB]; omega
  clear hd
  go_enter SqG.func94,Tryz.ntmps94
  go_wp2_with (go_at_call 44; refine (zaG _ _ _ _).mono ?_; rintro e w' ⟨rfl,rfl⟩)
  go_ret
  exact ⟨rfl,rfl⟩
 ·have h0:0<=d:=by omega
  have h3:d<=3:=by omega
  have hi:inB d 0 3=true:=by simp [inB,h0,h3]
  rw [zdb k d h0 h3]
  by_cases h24:k=2\/k=4
  ·rw [if_pos h24]
   clear hd hi
   rcases h24 with rfl | rfl
   all_goals
    rcases (show d=0\/d=1\/d=2\/d=3 by omega) with rfl | rfl | rfl | rfl
    all_goals
     clear h0 h3
     go_enter SqG.func94,Tryz.ntmps94
     go_wp2_with (first | (go_at_call 44; go_enter SqG.func44,Tryz.ntmps44) | fail)
     go_ret
     exact ⟨rfl,rfl⟩
  ·rw [if_neg h24]
   by_cases h35:k=3\/k=5
   ·rw [if_pos h35]
    clear hd hi h24
    rcases h35 with rfl | rfl
    all_goals
     rcases (show d=0\/d=1\/d=2\/d=3 by omega) with rfl | rfl | rfl | rfl
     all_goals
      clear h0 h3
      go_enter SqG.func94,Tryz.ntmps94
      go_wp2_with (first | (go_at_call 44; go_enter SqG.func44,Tryz.ntmps44) | fail)
      go_ret
      exact ⟨rfl,rfl⟩
   ·rw [if_neg h35]
    have n2:(k == 2)=false:=by simp; omega
    have n3:(k == 3)=false:=by simp; omega
    have n4:(k == 4)=false:=by simp; omega
    have n5:(k == 5)=false:=by simp; omega
    clear hd h24 h35
    go_enter SqG.func94,Tryz.ntmps94
    go_wp2_with (go_at_call 44; refine (zaG _ _ _ _).mono ?_; rintro e w' ⟨rfl,rfl⟩)
    go_ret
    exact ⟨rfl,rfl⟩
end Sp
namespace Sp
variable {aLt:Nat->Func->Func}
open Go.RowKit
def kd (cs:List (Int × Int)) (x:Int):Int:=(cs.getD x.toNat (0,0)).1
abbrev Tr:=List (Int × Int × Int) × List (Int × Int × Int)
def zaZ (a b:Tr):Tr:=(a.1 ++ b.1,a.2 ++ b.2)
def zc2 (kind wh:Int) (wt:Nat):Tr:=([],if wt=0 then [] else [(kind,wh,(wt:Int))])
def lvT (wd:Int) (cs:List (Int × Int)) (go:Int->Int->Nat->Tr) (x e:Int) (h:Nat):Tr :=
 if h=0 then ([],[]) else if (zbH wd cs x e).2.2=true then go (zbH wd cs x e).1 e h else zc2 0 (zct wd cs x e) h
def zbb (wd:Int) (cs:List (Int × Int)) (go:Int->Int->Nat->Tr) (x d:Int) (wt:Nat):Tr :=
 if kd cs x=1 then zc2 1 x wt else if kd cs x=7 then zc2 2 x wt
 else if kd cs x=6 then zaZ (zc2 3 x (wt - wt / 2)) (lvT wd cs go x d (wt / 2))
 else if kd cs x=4\/kd cs x=5 then zaZ (zc2 3 x (wt - 2 * (wt / 2))) (zaZ (lvT wd cs go x d (wt / 2)) (lvT wd cs go x (zaN (kd cs x) d) (wt / 2)))
 else lvT wd cs go x (zaN (kd cs x) d) wt
def zaH (wd:Int) (cs:List (Int × Int)):Nat->Int->Int->Nat->Tr
 | 0=>fun _ _ _=>([],[])
 | f + 1=>fun x d wt=>if wt=0 then ([],[]) else zaZ ([(x,d,(wt:Int))],[]) (zbb wd cs (zaH wd cs f) x d wt)
def zfy (k:Int):Prop:=k ≠ 1/\k ≠ 7/\k ≠ 6/\k ≠ 4/\k ≠ 5
def lvE (wd:Int) (cs:List (Int × Int)) (go:Int->Int->Nat->Prop) (x e:Int) (h:Nat):Prop:=h=0\/(zbH wd cs x e).2.2=false\/go (zbH wd cs x e).1 e h
def zay (wd:Int) (cs:List (Int × Int)):Nat->Int->Int->Nat->Prop
 | 0=>fun _ _ wt=>wt=0
 | f + 1=>fun x d wt=>wt=0\/(kd cs x=1\/kd cs x=7)\/(kd cs x=6/\lvE wd cs (zay wd cs f) x d (wt / 2)) \/
   ((kd cs x=4\/kd cs x=5)/\lvE wd cs (zay wd cs f) x d (wt / 2)/\lvE wd cs (zay wd cs f) x (zaN (kd cs x) d) (wt / 2))\/(zfy (kd cs x)/\lvE wd cs (zay wd cs f) x (zaN (kd cs x) d) wt)
theorem zdM (hm:∀ x d wt,go x d wt->go' x d wt) {h:Nat} (q:lvE wd cs go x e h):lvE wd cs go' x e h:=by
 rcases q with q | q | q
 ·exact Or.inl q
 ·exact Or.inr (Or.inl q)
 ·exact Or.inr (Or.inr (hm _ _ _ q))
theorem zff (wd:Int) (cs:List (Int × Int)):∀ f x d wt,zay wd cs f x d wt->zay wd cs (f + 1) x d wt:=by
 intro f
 induction f with
 | zero=>intro x d wt h; exact Or.inl h
 | succ f ih =>
  intro x d wt h
  rcases h with h | h | ⟨h1,h2⟩ | ⟨h1,h2,h3⟩ | ⟨h1,h2⟩
  ·exact Or.inl h
  ·exact Or.inr (Or.inl h)
  ·exact Or.inr (Or.inr (Or.inl ⟨h1,zdM ih h2⟩))
  ·exact Or.inr (Or.inr (Or.inr (Or.inl ⟨h1,zdM ih h2,zdM ih h3⟩)))
  ·exact Or.inr (Or.inr (Or.inr (Or.inr ⟨h1,zdM ih h2⟩)))
theorem ziV (wd:Int) (cs:List (Int × Int)) (f m:Nat) (x d:Int) (wt:Nat) (h:zay wd cs f x d wt):zay wd cs (f + m) x d wt:=by
 induction m with
 | zero=>exact h
 | succ m ih=>exact zff wd cs (f + m) x d wt ih
def stops (wd:Int) (cs:List (Int × Int)):Nat->Int->Int->Prop
 | 0=>fun _ _=>False
 | j + 1=>fun x d=>¬ zfy (kd cs x)\/(zbH wd cs x (zaN (kd cs x) d)).2.2=false\/stops wd cs j (zbH wd cs x (zaN (kd cs x) d)).1 (zaN (kd cs x) d)
def fresh (wd:Int) (cs:List (Int × Int)) (x d:Int):Prop:=(zbH wd cs x ((d + 2) % 4)).2.2=false\/¬ zfy (kd cs (zbH wd cs x ((d + 2) % 4)).1)
theorem zp8:∀ (n:Nat) (f:Nat->Nat),(∀ i,i < n + 1->f i < n)->∃ i j,i < j/\j < n + 1/\f i=f j:=by
 intro n
 induction n with
 | zero=>intro f h; have:=h 0 (by omega); omega
 | succ n ih =>
  intro f h
  by_cases c:∃ i,i < n + 1/\f i=f (n + 1)
  ·obtain ⟨i,hi,e⟩:=c
   exact ⟨i,n + 1,hi,by omega,e⟩
  ·have c':∀ i,i < n + 1->f i ≠ f (n + 1):=fun i hi e=>c ⟨i,hi,e⟩
   obtain ⟨i,j,hij,hj,e⟩:=ih (fun i=>if f i=n then f (n + 1) else f i) (by
    intro i hi
    have h1:=h i (by omega)
    have h2:=h (n + 1) (by omega)
    have h3:=c' i hi
    show (if f i=n then f (n + 1) else f i) < n
    split <;> omega)
   refine ⟨i,j,hij,by omega,?_⟩
   have hi1:=c' i (by omega)
   have hj1:=c' j hj
   split at e <;> split at e <;> omega
theorem zds (hd:0<=d/\d<=3):0<=zaN k d/\zaN k d<=3:=by
 rw [zdb k d hd.1 hd.2]
 unfold ziq
 split <;> (try split) <;> omega
theorem zny (hd:0<=d/\d<=3) (he:0<=e/\e<=3) (h:zaN k d=zaN k e):d=e:=by
 rw [zdb k d hd.1 hd.2,zdb k e he.1 he.2] at h
 unfold ziq at h
 split at h
 ·split at h <;> split at h <;> omega
 ·split at h <;> omega
def okS (cs:List (Int × Int)) (s:Int × Int):Prop:=(0<=s.1/\s.1 < (cs.length:Int))/\(0<=s.2/\s.2<=3)
def nxS (wd:Int) (cs:List (Int × Int)) (s:Int × Int):Int × Int:=((zbH wd cs s.1 (zaN (kd cs s.1) s.2)).1,zaN (kd cs s.1) s.2)
def zlL (wd:Int) (cs:List (Int × Int)) (s:Int × Int):Prop:=zfy (kd cs s.1)/\(zbH wd cs s.1 (zaN (kd cs s.1) s.2)).2.2=true
def itS (wd:Int) (cs:List (Int × Int)) (s:Int × Int):Nat->Int × Int
 | 0=>s
 | i + 1=>nxS wd cs (itS wd cs s i)
theorem zbr (h:(zbH wd cs x e).2.2=true):(0<=(zbH wd cs x e).1/\(zbH wd cs x e).1 < (cs.length:Int))/\(0<=e/\e<=3)/\zbH wd cs (zbH wd cs x e).1 ((e + 2) % 4)=(x,(e + 2) % 4,true):=by
 obtain ⟨x2,d2,b2,ev⟩:∃ x2 d2 b2,zbH wd cs x e=(x2,d2,b2):=⟨_,_,_,rfl⟩
 rw [ev] at h ⊢
 simp only at h ⊢
 subst h
 obtain ⟨e2,he,_,_,_,hb,_⟩:=zkg ev
 subst e2
 exact ⟨(zid hb).2.1,he,hb⟩
theorem zrt (h:zlL wd cs s):okS cs (nxS wd cs s):=by
 obtain ⟨h1,h2,_⟩:=zbr h.2
 exact ⟨h1,h2⟩
theorem zqR (hs:okS cs s) (ht:okS cs t) (ls:zlL wd cs s) (lt:zlL wd cs t) (h:nxS wd cs s=nxS wd cs t):s=t:=by
 unfold nxS at h
 simp only [Prod.mk.injEq] at h
 have b1:=(zbr ls.2).2.2
 have b2:=(zbr lt.2).2.2
 rw [h.1,h.2,b2] at b1
 simp only [Prod.mk.injEq] at b1
 have e1:t.1=s.1:=b1.1
 have e2:=h.2
 rw [e1] at e2
 exact Prod.ext e1.symm (zny hs.2 ht.2 e2)
theorem zoB (h:zlL wd cs t) (e:nxS wd cs t=s):¬ fresh wd cs s.1 s.2:=by
 have b:=(zbr h.2).2.2
 subst e
 rintro (q | q)
 ·rw [show (zbH wd cs (nxS wd cs t).1 (((nxS wd cs t).2 + 2) % 4))=_ from b] at q
  simp at q
 ·rw [show (zbH wd cs (nxS wd cs t).1 (((nxS wd cs t).2 + 2) % 4))=_ from b] at q
  exact q h.1
theorem zpZ :∀ (j:Nat) (s:Int × Int),¬ stops wd cs j s.1 s.2->∀ i,i < j->zlL wd cs (itS wd cs s i):=by
 have key:∀ (i j:Nat) (s:Int × Int),¬ stops wd cs j s.1 s.2->i<=j->¬ stops wd cs (j - i) (itS wd cs s i).1 (itS wd cs s i).2:=by
  intro i
  induction i with
  | zero=>intro j s h _; exact h
  | succ i ih =>
   intro j s h hi
   have q:=ih j s h (by omega)
   rw [show j - i=(j - (i + 1)) + 1 by omega] at q
   intro q2
   exact q (Or.inr (Or.inr q2))
 intro j s h i hi
 have q:=key i j s h (by omega)
 rw [show j - i=(j - i - 1) + 1 by omega] at q
 refine ⟨Classical.byContradiction fun n=>q (Or.inl n),?_⟩
 by_cases c:(zbH wd cs (itS wd cs s i).1 (zaN (kd cs (itS wd cs s i).1) (itS wd cs s i).2)).2.2=true
 ·exact c
 ·exact absurd (Or.inr (Or.inl (by simpa using c))) q
theorem zi2 (hn:cs.length<=25) (hx:0<=x/\x < (cs.length:Int)) (hd:0<=d/\d<=3) (hf:fresh wd cs x d):stops wd cs 101 x d:=by
 refine Classical.byContradiction fun hno=>?_
 have ha:=zpZ 101 (x,d) hno
 have hok:∀ i,i < 101->okS cs (itS wd cs (x,d) i):=by
  intro i
  cases i with
  | zero=>intro _; exact ⟨hx,hd⟩
  | succ i=>intro hi; exact zrt (ha i (by omega))
 have hne:∀ i m,i < m->m < 101->itS wd cs (x,d) i ≠ itS wd cs (x,d) m:=by
  intro i
  induction i with
  | zero =>
   intro m hm hm2 e
   obtain ⟨p,rfl⟩:∃ p,m=p + 1:=⟨m - 1,by omega⟩
   exact zoB (s:=(x,d)) (ha p (by omega)) e.symm hf
  | succ i ih =>
   intro m hm hm2 e
   obtain ⟨p,rfl⟩:∃ p,m=p + 1:=⟨m - 1,by omega⟩
   exact ih p (by omega) (by omega) (zqR (hok i (by omega)) (hok p (by omega)) (ha i (by omega)) (ha p (by omega)) e)
 obtain ⟨i,j,hij,hj,e⟩:=zp8 100 (fun i=>(4 * (itS wd cs (x,d) i).1 + (itS wd cs (x,d) i).2).toNat) (by
  intro i hi
  obtain ⟨q1,q2⟩:=hok i (by omega)
  show (4 * (itS wd cs (x,d) i).1 + (itS wd cs (x,d) i).2).toNat < 100
  omega)
 obtain ⟨q1,q2⟩:=hok i (by omega)
 obtain ⟨q3,q4⟩:=hok j (by omega)
 exact hne i j hij (by omega) (Prod.ext (by omega) (by omega))
theorem zkN (hk:¬ zfy (kd cs x)) (h:(zbH wd cs x e).2.2=true):fresh wd cs (zbH wd cs x e).1 e:=by
 right
 rw [(zbr h).2.2]
 exact hk
theorem zhK (hn:cs.length<=25):∀ (l:Nat) (x d:Int) (wt:Nat),wt < 2 ^ l->(0<=x/\x < (cs.length:Int))->(0<=d/\d<=3)->fresh wd cs x d->zay wd cs (101 * l) x d wt:=by
 intro l
 induction l with
 | zero =>
  intro x d wt h _ _ _
  have:wt=0:=by simp at h; exact h
  exact this
 | succ l ih =>
  have half:∀ (j:Nat) (x e:Int) (wt:Nat),wt < 2 ^ (l + 1)->¬ zfy (kd cs x)->lvE wd cs (zay wd cs (101 * l + j)) x e (wt / 2):=by
   intro j x e wt hw hk
   by_cases c:(zbH wd cs x e).2.2=true
   ·obtain ⟨r1,r2,_⟩:=zbr c
    have hw2:wt / 2 < 2 ^ l:=by rw [Nat.pow_succ] at hw; omega
    exact Or.inr (Or.inr (ziV wd cs (101 * l) j _ _ _ (ih _ e (wt / 2) hw2 r1 r2 (zkN hk c))))
   ·exact Or.inr (Or.inl (by simpa using c))
  have path:∀ (j:Nat) (x d:Int) (wt:Nat),wt < 2 ^ (l + 1)->stops wd cs j x d->zay wd cs (101 * l + j) x d wt:=by
   intro j
   induction j with
   | zero=>intro x d wt _ h; exact absurd h (fun q=>q)
   | succ j ihj =>
    intro x d wt hw hs
    show zay wd cs (101 * l + j + 1) x d wt
    by_cases h1:kd cs x=1\/kd cs x=7
    ·exact Or.inr (Or.inl h1)
    by_cases h6:kd cs x=6
    ·exact Or.inr (Or.inr (Or.inl ⟨h6,half j x d wt hw (fun q=>q.2.2.1 h6)⟩))
    by_cases h4:kd cs x=4\/kd cs x=5
    ·have hk:¬ zfy (kd cs x):=fun q=>by rcases h4 with h | h; exact q.2.2.2.1 h; exact q.2.2.2.2 h
     exact Or.inr (Or.inr (Or.inr (Or.inl ⟨h4,half j x d wt hw hk,half j x _ wt hw hk⟩)))
    ·have hp:zfy (kd cs x):=⟨fun q=>h1 (Or.inl q),fun q=>h1 (Or.inr q),h6,fun q=>h4 (Or.inl q),fun q=>h4 (Or.inr q)⟩
     refine Or.inr (Or.inr (Or.inr (Or.inr ⟨hp,?_⟩)))
     rcases hs with q | q | q
     ·exact absurd hp q
     ·exact Or.inr (Or.inl q)
     ·exact Or.inr (Or.inr (ihj _ _ _ hw q))
  intro x d wt hw hx hd hf
  exact path 101 x d wt hw (zi2 hn hx hd hf)
theorem zcJ (h:zbX wd cs k=(x,d,true)):((0<=x/\x < (cs.length:Int))/\(0<=d/\d<=3))/\zay wd cs 707 x d 64:=by
 obtain ⟨hd,hr,_,_⟩:=zlQ h
 have c:okG wd cs=true/\0<=k/\k < zcg wd cs:=by
  unfold zbX at h
  split at h
  ·assumption
  ·simp at h
 obtain ⟨W,H,S⟩:=zew c.1
 have hk:=c.2
 rw [S.em] at hk
 obtain ⟨K,rfl⟩:=Int.eq_ofNat_of_zero_le hk.1
 have hn:cs.length<=25:=by rw [S.el]; exact Nat.le_trans (Nat.mul_le_mul S.hW.2 S.hH.2) (by omega)
 have hx:0<=x/\x < (cs.length:Int):=by
  rw [zdK S K (by omega)] at h
  simp only [Prod.mk.injEq] at h
  have:=(zgw W H K S.hW S.hH (by omega) x d (Prod.ext h.1 h.2.1)).1
  rw [S.el]
  simpa using this
 exact ⟨⟨hx,hd⟩,zhK hn 7 x d 64 (by omega) hx hd (Or.inl (by rw [hr]))⟩
end Sp
end Go.Proofs.YtfbbcooklhmeaaaGreat
