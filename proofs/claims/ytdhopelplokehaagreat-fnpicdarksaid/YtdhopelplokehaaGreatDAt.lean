/- Of the proof: PJj -/
import Derived.Test.YtdhopelplokehaaGreatDAs
set_option maxHeartbeats 400000
set_option linter.unusedVariables false
namespace Go.Proofs.YtdhopelplokehaaGreat
namespace Sp
open Go.RowKit
def turnF (k:Int):Nat:=if k=2\/k=4 then 136 else if k=3\/k=5 then 137 else 135
def slashD (d:Int):Int:=if d=0\/d=2 then d + 1 else d - 1
def turnD (k d:Int):Int:=if d < 0\/3 < d then -1 else if k=2\/k=4 then slashD d else if k=3\/k=5 then 3 - d else d
theorem turnD_out (k d:Int) (h:d < 0\/3 < d):turnD k d=-1:=by unfold turnD; rw [if_pos h]
theorem turnD_in (k d:Int) (h0:0<=d) (h3:d<=3):turnD k d=if k=2\/k=4 then slashD d else if k=3\/k=5 then 3 - d else d:=by unfold turnD; rw [if_neg (by omega)]
theorem specDirTurn_any (k d:Int) (w:World) :
  Calls SqP.prog 112 #[.int .i64 k,.int .i64 d] w fun e w'=>e=.returned (.int .i64 (turnD k d))/\w'=w:=by
 by_cases hd:d < 0\/3 < d
 ·rw [turnD_out k d hd]
  have hi:inB d 0 3=false:=by simp [inB]; omega
  clear hd
  go_enter SqP.func112,Tryz.ntmps112
  go_wp2_with (go_at_call 52; refine (l6In_any _ _ _ _).mono ?_; rintro e w' ⟨rfl,rfl⟩)
  go_ret
  exact ⟨rfl,rfl⟩
 ·have h0:0<=d:=by omega
  have h3:d<=3:=by omega
  have hi:inB d 0 3=true:=by simp [inB,h0,h3]
  rw [turnD_in k d h0 h3]
  by_cases h24:k=2\/k=4
  ·rw [if_pos h24]
   clear hd hi
   rcases h24 with rfl | rfl
   all_goals
    rcases (show d=0\/d=1\/d=2\/d=3 by omega) with rfl | rfl | rfl | rfl
    all_goals
     clear h0 h3
     go_enter SqP.func112,Tryz.ntmps112
     go_wp2
     go_ret
     exact ⟨rfl,rfl⟩
  ·rw [if_neg h24]
   by_cases h35:k=3\/k=5
   ·rw [if_pos h35]
    clear hd hi h24
    rcases h35 with rfl | rfl
    all_goals
     rcases (show d=0\/d=1\/d=2\/d=3 by omega) with rfl | rfl | rfl | rfl
     all_goals
      clear h0 h3
      go_enter SqP.func112,Tryz.ntmps112
      go_wp2
      go_ret
      exact ⟨rfl,rfl⟩
   ·rw [if_neg h35]
    have n2:(k == 2)=false:=by simp; omega
    have n3:(k == 3)=false:=by simp; omega
    have n4:(k == 4)=false:=by simp; omega
    have n5:(k == 5)=false:=by simp; omega
    clear hd h24 h35
    go_enter SqP.func112,Tryz.ntmps112
    go_wp2_with (go_at_call 52; refine (l6In_any _ _ _ _).mono ?_; rintro e w' ⟨rfl,rfl⟩)
    go_ret
    exact ⟨rfl,rfl⟩
end Sp
namespace Sp
open Go.RowKit
def kd (cs:List (Int × Int)) (x:Int):Int:=(cs.getD x.toNat (0,0)).1
abbrev Tr:=List (Int × Int × Int) × List (Int × Int × Int)
def tapp (a b:Tr):Tr:=(a.1 ++ b.1,a.2 ++ b.2)
def endT (kind wh:Int) (wt:Nat):Tr:=([],if wt=0 then [] else [(kind,wh,(wt:Int))])
def lvT (wd:Int) (cs:List (Int × Int)) (go:Int->Int->Nat->Tr) (x e:Int) (h:Nat):Tr :=
 if h=0 then ([],[]) else if (rayN wd cs x e).2.2=true then go (rayN wd cs x e).1 e h else endT 0 (outOf wd cs x e) h
def inCell (wd:Int) (cs:List (Int × Int)) (go:Int->Int->Nat->Tr) (x d:Int) (wt:Nat):Tr :=
 if kd cs x=1 then endT 1 x wt else if kd cs x=7 then endT 2 x wt
 else if kd cs x=6 then tapp (endT 3 x (wt - wt / 2)) (lvT wd cs go x d (wt / 2))
 else if kd cs x=4\/kd cs x=5 then tapp (endT 3 x (wt - 2 * (wt / 2))) (tapp (lvT wd cs go x d (wt / 2)) (lvT wd cs go x (turnD (kd cs x) d) (wt / 2)))
 else lvT wd cs go x (turnD (kd cs x) d) wt
def comeT (wd:Int) (cs:List (Int × Int)):Nat->Int->Int->Nat->Tr
 | 0=>fun _ _ _=>([],[])
 | f + 1=>fun x d wt=>if wt=0 then ([],[]) else tapp ([(x,d,(wt:Int))],[]) (inCell wd cs (comeT wd cs f) x d wt)
def pureK (k:Int):Prop:=k ≠ 1/\k ≠ 7/\k ≠ 6/\k ≠ 4/\k ≠ 5
def lvE (wd:Int) (cs:List (Int × Int)) (go:Int->Int->Nat->Prop) (x e:Int) (h:Nat):Prop:=h=0\/(rayN wd cs x e).2.2=false\/go (rayN wd cs x e).1 e h
def enough (wd:Int) (cs:List (Int × Int)):Nat->Int->Int->Nat->Prop
 | 0=>fun _ _ wt=>wt=0
 | f + 1=>fun x d wt=>wt=0\/(kd cs x=1\/kd cs x=7)\/(kd cs x=6/\lvE wd cs (enough wd cs f) x d (wt / 2)) \/
   ((kd cs x=4\/kd cs x=5)/\lvE wd cs (enough wd cs f) x d (wt / 2)/\lvE wd cs (enough wd cs f) x (turnD (kd cs x) d) (wt / 2))\/(pureK (kd cs x)/\lvE wd cs (enough wd cs f) x (turnD (kd cs x) d) wt)
theorem lvE_mono {wd:Int} {cs:List (Int × Int)} {go go':Int->Int->Nat->Prop} (hm:∀ x d wt,go x d wt->go' x d wt) {x e:Int} {h:Nat} (q:lvE wd cs go x e h):lvE wd cs go' x e h:=by
 rcases q with q | q | q
 ·exact Or.inl q
 ·exact Or.inr (Or.inl q)
 ·exact Or.inr (Or.inr (hm _ _ _ q))
theorem enough_succ (wd:Int) (cs:List (Int × Int)):∀ f x d wt,enough wd cs f x d wt->enough wd cs (f + 1) x d wt:=by
 intro f
 induction f with
 | zero=>intro x d wt h; exact Or.inl h
 | succ f ih =>
  intro x d wt h
  rcases h with h | h | ⟨h1,h2⟩ | ⟨h1,h2,h3⟩ | ⟨h1,h2⟩
  ·exact Or.inl h
  ·exact Or.inr (Or.inl h)
  ·exact Or.inr (Or.inr (Or.inl ⟨h1,lvE_mono ih h2⟩))
  ·exact Or.inr (Or.inr (Or.inr (Or.inl ⟨h1,lvE_mono ih h2,lvE_mono ih h3⟩)))
  ·exact Or.inr (Or.inr (Or.inr (Or.inr ⟨h1,lvE_mono ih h2⟩)))
theorem enough_more (wd:Int) (cs:List (Int × Int)) (f m:Nat) (x d:Int) (wt:Nat) (h:enough wd cs f x d wt):enough wd cs (f + m) x d wt:=by
 induction m with
 | zero=>exact h
 | succ m ih=>exact enough_succ wd cs (f + m) x d wt ih
def stops (wd:Int) (cs:List (Int × Int)):Nat->Int->Int->Prop
 | 0=>fun _ _=>False
 | j + 1=>fun x d=>¬ pureK (kd cs x)\/(rayN wd cs x (turnD (kd cs x) d)).2.2=false\/stops wd cs j (rayN wd cs x (turnD (kd cs x) d)).1 (turnD (kd cs x) d)
def fresh (wd:Int) (cs:List (Int × Int)) (x d:Int):Prop:=(rayN wd cs x ((d + 2) % 4)).2.2=false\/¬ pureK (kd cs (rayN wd cs x ((d + 2) % 4)).1)
theorem pigeons:∀ (n:Nat) (f:Nat->Nat),(∀ i,i < n + 1->f i < n)->∃ i j,i < j/\j < n + 1/\f i=f j:=by
 intro n
 induction n with
 | zero=>intro f h; have:=h 0 (by omega); omega
 | succ n ih =>
  intro f h
  by_cases c:∃ i,i < n + 1/\f i=f (n + 1)
  ·obtain ⟨i,hi,e⟩:=c
   exact ⟨i,n + 1,hi,by omega,e⟩
  ·have c':∀ i,i < n + 1->f i ≠ f (n + 1):=fun i hi e=>c ⟨i,hi,e⟩
   obtain ⟨i,j,hij,hj,e⟩:=ih (fun i=>if f i=n then f (n + 1) else f i) (by
    intro i hi
    have h1:=h i (by omega)
    have h2:=h (n + 1) (by omega)
    have h3:=c' i hi
    show (if f i=n then f (n + 1) else f i) < n
    split <;> omega)
   refine ⟨i,j,hij,by omega,?_⟩
   have hi1:=c' i (by omega)
   have hj1:=c' j hj
   split at e <;> split at e <;> omega
theorem turnD_range {k d:Int} (hd:0<=d/\d<=3):0<=turnD k d/\turnD k d<=3:=by
 rw [turnD_in k d hd.1 hd.2]
 unfold slashD
 split <;> (try split) <;> omega
theorem turnD_inj {k d e:Int} (hd:0<=d/\d<=3) (he:0<=e/\e<=3) (h:turnD k d=turnD k e):d=e:=by
 rw [turnD_in k d hd.1 hd.2,turnD_in k e he.1 he.2] at h
 unfold slashD at h
 split at h
 ·split at h <;> split at h <;> omega
 ·split at h <;> omega
def okS (cs:List (Int × Int)) (s:Int × Int):Prop:=(0<=s.1/\s.1 < (cs.length:Int))/\(0<=s.2/\s.2<=3)
def nxS (wd:Int) (cs:List (Int × Int)) (s:Int × Int):Int × Int:=((rayN wd cs s.1 (turnD (kd cs s.1) s.2)).1,turnD (kd cs s.1) s.2)
def alive (wd:Int) (cs:List (Int × Int)) (s:Int × Int):Prop:=pureK (kd cs s.1)/\(rayN wd cs s.1 (turnD (kd cs s.1) s.2)).2.2=true
def itS (wd:Int) (cs:List (Int × Int)) (s:Int × Int):Nat->Int × Int
 | 0=>s
 | i + 1=>nxS wd cs (itS wd cs s i)
theorem rayN_back {wd:Int} {cs:List (Int × Int)} {x e:Int} (h:(rayN wd cs x e).2.2=true):(0<=(rayN wd cs x e).1/\(rayN wd cs x e).1 < (cs.length:Int))/\(0<=e/\e<=3)/\rayN wd cs (rayN wd cs x e).1 ((e + 2) % 4)=(x,(e + 2) % 4,true):=by
 obtain ⟨x2,d2,b2,ev⟩:∃ x2 d2 b2,rayN wd cs x e=(x2,d2,b2):=⟨_,_,_,rfl⟩
 rw [ev] at h ⊢
 simp only at h ⊢
 subst h
 obtain ⟨e2,he,_,_,_,hb,_⟩:=ray_back ev
 subst e2
 exact ⟨(rayN_true hb).2.1,he,hb⟩
theorem nx_ok {wd:Int} {cs:List (Int × Int)} {s:Int × Int} (h:alive wd cs s):okS cs (nxS wd cs s):=by
 obtain ⟨h1,h2,_⟩:=rayN_back h.2
 exact ⟨h1,h2⟩
theorem nx_inj {wd:Int} {cs:List (Int × Int)} {s t:Int × Int} (hs:okS cs s) (ht:okS cs t) (ls:alive wd cs s) (lt:alive wd cs t) (h:nxS wd cs s=nxS wd cs t):s=t:=by
 unfold nxS at h
 simp only [Prod.mk.injEq] at h
 have b1:=(rayN_back ls.2).2.2
 have b2:=(rayN_back lt.2).2.2
 rw [h.1,h.2,b2] at b1
 simp only [Prod.mk.injEq] at b1
 have e1:t.1=s.1:=b1.1
 have e2:=h.2
 rw [e1] at e2
 exact Prod.ext e1.symm (turnD_inj hs.2 ht.2 e2)
theorem nx_fresh {wd:Int} {cs:List (Int × Int)} {s t:Int × Int} (h:alive wd cs t) (e:nxS wd cs t=s):¬ fresh wd cs s.1 s.2:=by
 have b:=(rayN_back h.2).2.2
 subst e
 rintro (q | q)
 ·rw [show (rayN wd cs (nxS wd cs t).1 (((nxS wd cs t).2 + 2) % 4))=_ from b] at q
  simp at q
 ·rw [show (rayN wd cs (nxS wd cs t).1 (((nxS wd cs t).2 + 2) % 4))=_ from b] at q
  exact q h.1
theorem goes_on {wd:Int} {cs:List (Int × Int)}:∀ (j:Nat) (s:Int × Int),¬ stops wd cs j s.1 s.2->∀ i,i < j->alive wd cs (itS wd cs s i):=by
 have key:∀ (i j:Nat) (s:Int × Int),¬ stops wd cs j s.1 s.2->i<=j->¬ stops wd cs (j - i) (itS wd cs s i).1 (itS wd cs s i).2:=by
  intro i
  induction i with
  | zero=>intro j s h _; exact h
  | succ i ih =>
   intro j s h hi
   have q:=ih j s h (by omega)
   rw [show j - i=(j - (i + 1)) + 1 by omega] at q
   intro q2
   exact q (Or.inr (Or.inr q2))
 intro j s h i hi
 have q:=key i j s h (by omega)
 rw [show j - i=(j - i - 1) + 1 by omega] at q
 refine ⟨Classical.byContradiction fun n=>q (Or.inl n),?_⟩
 by_cases c:(rayN wd cs (itS wd cs s i).1 (turnD (kd cs (itS wd cs s i).1) (itS wd cs s i).2)).2.2=true
 ·exact c
 ·exact absurd (Or.inr (Or.inl (by simpa using c))) q
theorem fresh_stops {wd:Int} {cs:List (Int × Int)} (hn:cs.length<=25) {x d:Int} (hx:0<=x/\x < (cs.length:Int)) (hd:0<=d/\d<=3) (hf:fresh wd cs x d):stops wd cs 101 x d:=by
 refine Classical.byContradiction fun hno=>?_
 have ha:=goes_on 101 (x,d) hno
 have hok:∀ i,i < 101->okS cs (itS wd cs (x,d) i):=by
  intro i
  cases i with
  | zero=>intro _; exact ⟨hx,hd⟩
  | succ i=>intro hi; exact nx_ok (ha i (by omega))
 have hne:∀ i m,i < m->m < 101->itS wd cs (x,d) i ≠ itS wd cs (x,d) m:=by
  intro i
  induction i with
  | zero =>
   intro m hm hm2 e
   obtain ⟨p,rfl⟩:∃ p,m=p + 1:=⟨m - 1,by omega⟩
   exact nx_fresh (s:=(x,d)) (ha p (by omega)) e.symm hf
  | succ i ih =>
   intro m hm hm2 e
   obtain ⟨p,rfl⟩:∃ p,m=p + 1:=⟨m - 1,by omega⟩
   exact ih p (by omega) (by omega) (nx_inj (hok i (by omega)) (hok p (by omega)) (ha i (by omega)) (ha p (by omega)) e)
 obtain ⟨i,j,hij,hj,e⟩:=pigeons 100 (fun i=>(4 * (itS wd cs (x,d) i).1 + (itS wd cs (x,d) i).2).toNat) (by
  intro i hi
  obtain ⟨q1,q2⟩:=hok i (by omega)
  show (4 * (itS wd cs (x,d) i).1 + (itS wd cs (x,d) i).2).toNat < 100
  omega)
 obtain ⟨q1,q2⟩:=hok i (by omega)
 obtain ⟨q3,q4⟩:=hok j (by omega)
 exact hne i j hij (by omega) (Prod.ext (by omega) (by omega))
theorem half_fresh {wd:Int} {cs:List (Int × Int)} {x e:Int} (hk:¬ pureK (kd cs x)) (h:(rayN wd cs x e).2.2=true):fresh wd cs (rayN wd cs x e).1 e:=by
 right
 rw [(rayN_back h).2.2]
 exact hk
theorem enough_fresh {wd:Int} {cs:List (Int × Int)} (hn:cs.length<=25):∀ (l:Nat) (x d:Int) (wt:Nat),wt < 2 ^ l->(0<=x/\x < (cs.length:Int))->(0<=d/\d<=3)->fresh wd cs x d->enough wd cs (101 * l) x d wt:=by
 intro l
 induction l with
 | zero =>
  intro x d wt h _ _ _
  have:wt=0:=by simp at h; exact h
  exact this
 | succ l ih =>
  have half:∀ (j:Nat) (x e:Int) (wt:Nat),wt < 2 ^ (l + 1)->¬ pureK (kd cs x)->lvE wd cs (enough wd cs (101 * l + j)) x e (wt / 2):=by
   intro j x e wt hw hk
   by_cases c:(rayN wd cs x e).2.2=true
   ·obtain ⟨r1,r2,_⟩:=rayN_back c
    have hw2:wt / 2 < 2 ^ l:=by rw [Nat.pow_succ] at hw; omega
    exact Or.inr (Or.inr (enough_more wd cs (101 * l) j _ _ _ (ih _ e (wt / 2) hw2 r1 r2 (half_fresh hk c))))
   ·exact Or.inr (Or.inl (by simpa using c))
  have path:∀ (j:Nat) (x d:Int) (wt:Nat),wt < 2 ^ (l + 1)->stops wd cs j x d->enough wd cs (101 * l + j) x d wt:=by
   intro j
   induction j with
   | zero=>intro x d wt _ h; exact absurd h (fun q=>q)
   | succ j ihj =>
    intro x d wt hw hs
    show enough wd cs (101 * l + j + 1) x d wt
    by_cases h1:kd cs x=1\/kd cs x=7
    ·exact Or.inr (Or.inl h1)
    by_cases h6:kd cs x=6
    ·exact Or.inr (Or.inr (Or.inl ⟨h6,half j x d wt hw (fun q=>q.2.2.1 h6)⟩))
    by_cases h4:kd cs x=4\/kd cs x=5
    ·have hk:¬ pureK (kd cs x):=fun q=>by rcases h4 with h | h; exact q.2.2.2.1 h; exact q.2.2.2.2 h
     exact Or.inr (Or.inr (Or.inr (Or.inl ⟨h4,half j x d wt hw hk,half j x _ wt hw hk⟩)))
    ·have hp:pureK (kd cs x):=⟨fun q=>h1 (Or.inl q),fun q=>h1 (Or.inr q),h6,fun q=>h4 (Or.inl q),fun q=>h4 (Or.inr q)⟩
     refine Or.inr (Or.inr (Or.inr (Or.inr ⟨hp,?_⟩)))
     rcases hs with q | q | q
     ·exact absurd hp q
     ·exact Or.inr (Or.inl q)
     ·exact Or.inr (Or.inr (ihj _ _ _ hw q))
  intro x d wt hw hx hd hf
  exact path 101 x d wt hw (fresh_stops hn hx hd hf)
theorem enough_sight {wd:Int} {cs:List (Int × Int)} {k x d:Int} (h:inRay wd cs k=(x,d,true)):((0<=x/\x < (cs.length:Int))/\(0<=d/\d<=3))/\enough wd cs 707 x d 64:=by
 obtain ⟨hd,hr,_,_⟩:=back_fact h
 have c:okG wd cs=true/\0<=k/\k < manyG wd cs:=by
  unfold inRay at h
  split at h
  ·assumption
  ·simp at h
 obtain ⟨W,H,S⟩:=siz_of c.1
 have hk:=c.2
 rw [S.em] at hk
 obtain ⟨K,rfl⟩:=Int.eq_ofNat_of_zero_le hk.1
 have hn:cs.length<=25:=by rw [S.el]; exact Nat.le_trans (Nat.mul_le_mul S.hW.2 S.hH.2) (by omega)
 have hx:0<=x/\x < (cs.length:Int):=by
  rw [inRay_at S K (by omega)] at h
  simp only [Prod.mk.injEq] at h
  have:=(sight_back W H K S.hW S.hH (by omega) x d (Prod.ext h.1 h.2.1)).1
  rw [S.el]
  simpa using this
 exact ⟨⟨hx,hd⟩,enough_fresh hn 7 x d 64 (by omega) hx hd (Or.inl (by rw [hr]))⟩
end Sp
end Go.Proofs.YtdhopelplokehaaGreat
