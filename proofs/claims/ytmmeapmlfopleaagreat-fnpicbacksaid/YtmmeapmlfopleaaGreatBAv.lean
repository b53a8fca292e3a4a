/- Of the proof: PJl, PJn, PJp -/
import Derived.Test.YtmmeapmlfopleaaGreatBAu
set_option linter.unusedVariables false
namespace Go.Proofs.YtmmeapmlfopleaaGreat
namespace Sp
open Go.RowKit
def sumW:List (Int × Int × Int)->Int
 | []=>0
 | t :: r=>t.2.2 + sumW r
theorem sumW_append (a b:List (Int × Int × Int)):sumW (a ++ b)=sumW a + sumW b:=by
 induction a with
 | nil=>simp [sumW]
 | cons t r ih=>simp only [List.cons_append,sumW,ih]; omega
def EndOk (wd:Int) (cs:List (Int × Int)) (t:Int × Int × Int):Prop :=
 1<=t.2.2/\((t.1=0/\0<=t.2.1/\t.2.1 < manyG wd cs)\/((0<=t.2.1/\t.2.1 < (cs.length:Int))/\((t.1=1/\kd cs t.2.1=1)\/(t.1=2/\kd cs t.2.1=7)\/(t.1=3/\(kd cs t.2.1=4\/kd cs t.2.1=5\/kd cs t.2.1=6)))))
def VisOk (cs:List (Int × Int)) (wt:Nat) (t:Int × Int × Int):Prop:=okS cs (t.1,t.2.1)/\1<=t.2.2/\t.2.2<=(wt:Int)
structure TrOk (wd:Int) (cs:List (Int × Int)) (wt:Nat) (t:Tr):Prop where
 sum:sumW t.2=(wt:Int)
 ends : ∀ u ∈ t.2, EndOk wd cs u
 vis:∀ u ∈ t.1,VisOk cs wt u
theorem trok_app {wd:Int} {cs:List (Int × Int)} {m n wt:Nat} {a b:Tr} (ha:TrOk wd cs m a) (hb:TrOk wd cs n b) (h:m + n=wt):TrOk wd cs wt (tapp a b):=by
 refine ⟨?_,?_,?_⟩
 ·simp only [tapp,sumW_append,ha.sum,hb.sum]; omega
 ·intro u hu
  simp only [tapp,List.mem_append] at hu
  rcases hu with q | q
  ·exact ha.ends u q
  ·exact hb.ends u q
 ·intro u hu
  simp only [tapp,List.mem_append] at hu
  rcases hu with q | q
  ·obtain ⟨h1,h2,h3⟩:=ha.vis u q; exact ⟨h1,h2,by omega⟩
  ·obtain ⟨h1,h2,h3⟩:=hb.vis u q; exact ⟨h1,h2,by omega⟩
theorem trok_nil (wd:Int) (cs:List (Int × Int)):TrOk wd cs 0 ([],[]):=⟨rfl,by simp,by simp⟩
theorem trok_end {wd:Int} {cs:List (Int × Int)} {k x:Int} {wt:Nat} (h:0 < wt->EndOk wd cs (k,x,(wt:Int))):TrOk wd cs wt (endT k x wt):=by
 unfold endT
 by_cases h0:wt=0
 ·subst h0; exact trok_nil wd cs
 ·rw [if_neg h0]
  refine ⟨by simp [sumW],?_,by simp⟩
  intro u hu
  simp only [List.mem_singleton] at hu
  subst hu
  exact h (by omega)
theorem trok_lv {wd:Int} {cs:List (Int × Int)} {f:Nat} (hok:okG wd cs=true) (ih:∀ x d wt,okS cs (x,d)->enough wd cs f x d wt->TrOk wd cs wt (comeT wd cs f x d wt)) (x e:Int) (h:Nat) (hs:okS cs (x,e)) (hE:lvE wd cs (enough wd cs f) x e h) :
  TrOk wd cs h (lvT wd cs (comeT wd cs f) x e h):=by
 unfold lvT
 by_cases h0:h=0
 ·subst h0; rw [if_pos rfl]; exact trok_nil wd cs
 ·rw [if_neg h0]
  by_cases c:(rayN wd cs x e).2.2=true
  ·rw [if_pos c]
   obtain ⟨r1,r2,_⟩:=rayN_back c
   rcases hE with q | q | q
   ·exact absurd q h0
   ·rw [c] at q; cases q
   ·exact ih _ _ _ ⟨r1,r2⟩ q
  ·rw [if_neg c]
   refine trok_end fun _=>⟨by simp only; omega,Or.inl ⟨rfl,?_⟩⟩
   rcases out_fact hok hs.1 hs.2 with ⟨x2,d2,q,_⟩ | ⟨_,q⟩
   ·simp only at q
    rw [q] at c
    exact absurd rfl c
   ·simp only at q
    unfold inRay at q
    split at q
    ·next z=>exact z.2
    ·simp at q
theorem trok_come {wd:Int} {cs:List (Int × Int)} (hok:okG wd cs=true):∀ f x d wt,okS cs (x,d)->enough wd cs f x d wt->TrOk wd cs wt (comeT wd cs f x d wt):=by
 intro f
 induction f with
 | zero =>
  intro x d wt _ hE
  have:wt=0:=hE
  subst this
  exact trok_nil wd cs
 | succ f ih =>
  intro x d wt hs hE
  by_cases h0:wt=0
  ·subst h0; rw [comeT_zero]; exact trok_nil wd cs
  ·simp only [comeT]
   rw [if_neg h0]
   have hst:okS cs (x,turnD (kd cs x) d):=⟨hs.1,turnD_range hs.2⟩
   have hI:TrOk wd cs wt (inCell wd cs (comeT wd cs f) x d wt):=by
    unfold inCell
    by_cases k1:kd cs x=1
    ·rw [if_pos k1]; exact trok_end fun _=>⟨by simp only; omega,Or.inr ⟨hs.1,Or.inl ⟨rfl,k1⟩⟩⟩
    rw [if_neg k1]
    by_cases k7:kd cs x=7
    ·rw [if_pos k7]; exact trok_end fun _=>⟨by simp only; omega,Or.inr ⟨hs.1,Or.inr (Or.inl ⟨rfl,k7⟩)⟩⟩
    rw [if_neg k7]
    by_cases k6:kd cs x=6
    ·rw [if_pos k6]
     have hE1:lvE wd cs (enough wd cs f) x d (wt / 2):=by
      rcases hE with q | q | ⟨_,q⟩ | ⟨q,_⟩ | ⟨q,_⟩
      ·exact absurd q h0
      ·omega
      ·exact q
      ·omega
      ·exact absurd k6 q.2.2.1
     exact trok_app (trok_end fun q=>⟨by simp only; omega,Or.inr ⟨hs.1,Or.inr (Or.inr ⟨rfl,Or.inr (Or.inr k6)⟩)⟩⟩) (trok_lv hok ih x d _ hs hE1) (by omega)
    rw [if_neg k6]
    by_cases k45:kd cs x=4\/kd cs x=5
    ·rw [if_pos k45]
     have hE1:lvE wd cs (enough wd cs f) x d (wt / 2)/\lvE wd cs (enough wd cs f) x (turnD (kd cs x) d) (wt / 2):=by
      rcases hE with q | q | ⟨q,_⟩ | ⟨_,q,q2⟩ | ⟨q,_⟩
      ·exact absurd q h0
      ·omega
      ·exact absurd q k6
      ·exact ⟨q,q2⟩
      ·rcases k45 with z | z
       ·exact absurd z q.2.2.2.1
       ·exact absurd z q.2.2.2.2
     refine trok_app (m:=wt - 2 * (wt / 2)) (n:=wt / 2 + wt / 2) (trok_end fun q=>⟨by simp only; omega,Or.inr ⟨hs.1,Or.inr (Or.inr ⟨rfl,?_⟩)⟩⟩) (trok_app (trok_lv hok ih x d _ hs hE1.1) (trok_lv hok ih x _ _ hst hE1.2) rfl) (by omega)
     rcases k45 with z | z
     ·exact Or.inl z
     ·exact Or.inr (Or.inl z)
    ·rw [if_neg k45]
     refine trok_lv hok ih x _ _ hst ?_
     rcases hE with q | q | ⟨q,_⟩ | ⟨q,_⟩ | ⟨_,q⟩
     ·exact absurd q h0
     ·omega
     ·exact absurd q k6
     ·exact absurd q k45
     ·exact q
   refine ⟨by simp only [tapp,List.nil_append]; exact hI.sum,by simp only [tapp,List.nil_append]; exact hI.ends,?_⟩
   intro u hu
   simp only [tapp,List.mem_append,List.mem_singleton] at hu
   rcases hu with q | q
   ·subst q; exact ⟨hs,by simp only; omega,by simp only; omega⟩
   ·exact hI.vis u q
theorem trail_ok {wd:Int} {cs:List (Int × Int)} {k:Int} (h:inS wd cs k=true):TrOk wd cs 64 (trailT wd cs k):=by
 have hok:=inS_ok h
 obtain ⟨W,H,S⟩:=siz_of hok
 have hk:=h
 simp only [inS,decide_eq_true_eq,S.em] at hk
 obtain ⟨K,rfl⟩:=Int.eq_ofNat_of_zero_le hk.1
 obtain ⟨x,d,hs⟩:∃ x d,sRay (W:Int) (H:Int) (K:Int)=(x,d):=⟨_,_,rfl⟩
 have hr:inRay wd cs (K:Int)=(x,d,true):=by rw [inRay_at S K (by omega),hs]
 obtain ⟨h1,hE⟩:=enough_sight hr
 unfold trailT
 rw [if_pos h,hr]
 exact trok_come hok 707 x d 64 h1 hE
end Sp
namespace Sp
open Go.RowKit
def R3At (w:World) (a:Option Addr) (es:List (Int × Int × Int)):Prop:=es=[]\/∃ b off,a=some ⟨b,off,none⟩/\b < w.heap.size/\∀ i,i < es.length ->
 w.cell? ⟨b,off + i * 3,none⟩=some (.int .i64 (es.getD i (0,0,0)).1)/\w.cell? ⟨b,off + i * 3 + 1,none⟩=some (.int .i64 (es.getD i (0,0,0)).2.1)/\w.cell? ⟨b,off + i * 3 + 2,none⟩=some (.int .i64 (es.getD i (0,0,0)).2.2)
theorem R3At.below {w w':World} {a:Option Addr} {es:List (Int × Int × Int)} (h:R3At w a es) (hb:Below w.heap.size w w'):R3At w' a es:=by
 rcases h with h | ⟨b,off,rfl,hbl,hc⟩
 ·exact Or.inl h
 ·exact Or.inr ⟨b,off,rfl,Nat.lt_of_lt_of_le hbl hb.size,fun i hi=>⟨keepc hb (hc i hi).1,keepc hb (hc i hi).2.1,keepc hb (hc i hi).2.2⟩⟩
theorem flat3_at (es:List (Int × Int × Int)):∀ i,i < es.length->(flat3 es)[i * 3]?=some (.int .i64 (es.getD i (0,0,0)).1)/\(flat3 es)[i * 3 + 1]?=some (.int .i64 (es.getD i (0,0,0)).2.1)/\(flat3 es)[i * 3 + 2]?=some (.int .i64 (es.getD i (0,0,0)).2.2):=by
 induction es with
 | nil=>intro i h; simp at h
 | cons t r ih =>
  intro i hi
  cases i with
  | zero=>exact ⟨rfl,rfl,rfl⟩
  | succ i =>
   have:=ih i (by simpa using hi)
   have e:flat3 (t :: r)=.int .i64 t.1 :: .int .i64 t.2.1 :: .int .i64 t.2.2 :: flat3 r:=rfl
   rw [e,show (i + 1) * 3=i * 3 + 3 by omega]
   exact this
theorem row3_at {w:World} {B:Nat} {t:TypeId} {v:Value} {es:List (Int × Int × Int)} (h:w.ownsRow B t 3 v es.length (flat3 es)):∃ a cap,v=.slice a es.length cap/\R3At w a es:=by
 obtain ⟨h1,h2⟩:=h
 rcases h2 with ⟨rfl,h2⟩ | ⟨g,cap,cur,rfl,hg,hh,_,_,_,ht⟩
 ·exact ⟨none,0,by rw [h2],Or.inl (List.length_eq_zero_iff.1 h2)⟩
 ·refine ⟨_,cap,rfl,Or.inr ⟨g,0,rfl,(Array.getElem?_eq_some_iff.1 hh).1,fun i hi=>?_⟩⟩
  have key:∀ j,j < es.length * 3->w.cell? ⟨g,j,none⟩=(flat3 es)[j]?:=by
   intro j hj
   rw [cell_of_row w g j cur t (0,0) hh,<- ht,List.getElem?_take_of_lt hj]
   simp
  obtain ⟨q1,q2,q3⟩:=flat3_at es i hi
  simp only [Nat.zero_add]
  exact ⟨by rw [key _ (by omega)]; exact q1,by rw [key _ (by omega)]; exact q2,by rw [key _ (by omega)]; exact q3⟩
def sumTo (q0:Int):List (Int × Int × Int)->Int
 | []=>0
 | t :: r=>(if t.1=0/\t.2.1=q0 then t.2.2 else 0) + sumTo q0 r
theorem sumTo_append (q0:Int) (a b:List (Int × Int × Int)):sumTo q0 (a ++ b)=sumTo q0 a + sumTo q0 b:=by
 induction a with
 | nil=>simp [sumTo]
 | cons t r ih=>simp only [List.cons_append,sumTo,ih]; omega
theorem sumTo_in (q0:Int) (l:List (Int × Int × Int)) (h:∀ u ∈ l,1<=u.2.2):0<=sumTo q0 l/\sumTo q0 l<=sumW l:=by
 induction l with
 | nil=>simp [sumTo,sumW]
 | cons t r ih =>
  have h1:=h t (by simp)
  have h2:=ih (fun u hu=>h u (by simp [hu]))
  simp only [sumTo,sumW]
  split <;> omega
theorem sumW_pos (l:List (Int × Int × Int)) (h:∀ u ∈ l,1<=u.2.2):0<=sumW l:=by
 have:=sumTo_in 0 l h
 omega
theorem take_one {α:Type} (l:List α) (i:Nat) (z:α) (h:i < l.length):l.take (i + 1)=l.take i ++ [l.getD i z]:=by
 rw [List.take_succ_eq_append_getElem h]
 simp [List.getElem?_eq_getElem h]
theorem sum_take {es:List (Int × Int × Int)} (h:∀ u ∈ es,1<=u.2.2) (i:Nat):sumW (es.take i)<=sumW es:=by
 have e:=sumW_append (es.take i) (es.drop i)
 rw [List.take_append_drop] at e
 have:=sumW_pos (es.drop i) (fun u hu=>h u (List.mem_of_mem_drop hu))
 omega
def toN (wd:Int) (cs:List (Int × Int)) (k q0:Int):Int:=sumTo q0 (trailT wd cs k).2
end Sp
namespace Sp
open Go.RowKit
end Sp
namespace Sp
open Go.RowKit
abbrev Stp:=Int × Int × Int
def outs (k d:Int):List Int:=if k=1\/k=7 then [] else if k=6 then [d] else if k=4\/k=5 then [d,turnD k d] else [turnD k d]
def cst (k:Int):Nat:=if k=6\/k=4\/k=5 then 1 else 0
def paths (wd:Int) (cs:List (Int × Int)) (q:Int):Nat->Int->Int->Nat->List (List Stp)
 | 0=>fun _ _ _=>[]
 | f + 1=>fun x d n=>if n < cst (kd cs x) then [] else (outs (kd cs x) d).flatMap fun e =>
   if (rayN wd cs x e).2.2=true then (paths wd cs q f (rayN wd cs x e).1 e (n - cst (kd cs x))).map (fun p=>(x,d,e) :: p) else if n=cst (kd cs x)/\outOf wd cs x e=q then [[(x,d,e)]] else []
def lvP (wd:Int) (cs:List (Int × Int)) (q:Int) (f:Nat) (x e:Int) (n:Nat):Nat:=if (rayN wd cs x e).2.2=true then (paths wd cs q f (rayN wd cs x e).1 e n).length else if n=0/\outOf wd cs x e=q then 1 else 0
def wsum (a:Nat->Nat) (wt:Nat):Nat:=a 0 * wt + a 1 * (wt / 2) + a 2 * (wt / 4) + a 3 * (wt / 8) + a 4 * (wt / 16) + a 5 * (wt / 32) + a 6 * (wt / 64)
theorem wsum_add (a b:Nat->Nat) (wt:Nat):wsum (fun n=>a n + b n) wt=wsum a wt + wsum b wt:=by
 simp only [wsum,Nat.add_mul]; omega
theorem wsum_zero (a:Nat->Nat):wsum a 0=0:=by simp [wsum]
theorem wsum_half (b:Nat->Nat) (wt:Nat) (h:wt < 128):wsum (fun n=>if n < 1 then 0 else b (n - 1)) wt=wsum b (wt / 2):=by
 simp only [wsum,Nat.div_div_eq_div_mul]
 simp
 have e:wt / 128=0:=by omega
 rw [e]
 omega
theorem paths_len (wd:Int) (cs:List (Int × Int)) (q:Int) (f:Nat) (x d:Int) (n:Nat):(paths wd cs q (f + 1) x d n).length=if n < cst (kd cs x) then 0 else ((outs (kd cs x) d).map fun e=>lvP wd cs q f x e (n - cst (kd cs x))).sum:=by
 simp only [paths]
 split
 ·rfl
 ·next hn =>
  rw [List.length_flatMap]
  congr 1
  apply List.map_congr_left
  intro e _
  unfold lvP
  split
  ·simp
  ·have:(n=cst (kd cs x)/\outOf wd cs x e=q) ↔ (n - cst (kd cs x)=0/\outOf wd cs x e=q):=by
    constructor <;> (rintro ⟨h1,h2⟩; exact ⟨by omega,h2⟩)
   by_cases c:n=cst (kd cs x)/\outOf wd cs x e=q
   ·rw [if_pos c,if_pos (this.1 c)]; rfl
   ·rw [if_neg c,if_neg (fun z=>c (this.2 z))]; rfl
theorem amt_lv {wd:Int} {cs:List (Int × Int)} {q:Int} {f:Nat} (ih:∀ x d wt,wt < 128->sumTo q (comeT wd cs f x d wt).2=(wsum (fun n=>(paths wd cs q f x d n).length) wt:Nat)) (x e:Int) (h:Nat) (hh:h < 128) :
  sumTo q (lvT wd cs (comeT wd cs f) x e h).2=(wsum (lvP wd cs q f x e) h:Nat):=by
 unfold lvT
 by_cases h0:h=0
 ·subst h0; rw [if_pos rfl,wsum_zero]; rfl
 ·rw [if_neg h0]
  by_cases c:(rayN wd cs x e).2.2=true
  ·rw [if_pos c,ih _ _ _ hh]
   have:(fun n=>(paths wd cs q f (rayN wd cs x e).1 e n).length)=lvP wd cs q f x e:=by
    funext n; unfold lvP; rw [if_pos c]
   rw [this]
  ·rw [if_neg c]
   have e1:∀ n,lvP wd cs q f x e n=if n=0/\outOf wd cs x e=q then 1 else 0:=by intro n; unfold lvP; rw [if_neg c]
   unfold endT
   rw [if_neg h0]
   simp only [sumTo,wsum,e1]
   by_cases z:outOf wd cs x e=q
   ·simp [z]
   ·simp [z]
theorem sumTo_end (q k x:Int) (wt:Nat) (hk:k ≠ 0):sumTo q (endT k x wt).2=0:=by
 unfold endT
 split
 ·rfl
 ·simp [sumTo,hk]
theorem amt (wd:Int) (cs:List (Int × Int)) (q:Int):∀ f x d wt,wt < 128->sumTo q (comeT wd cs f x d wt).2=(wsum (fun n=>(paths wd cs q f x d n).length) wt:Nat):=by
 intro f
 induction f with
 | zero=>intro x d wt _; simp [comeT,paths,wsum,sumTo]
 | succ f ih =>
  intro x d wt hw
  by_cases h0:wt=0
  ·subst h0; rw [comeT_zero,wsum_zero]; rfl
  ·have hfun:(fun n=>(paths wd cs q (f + 1) x d n).length)=fun n=>if n < cst (kd cs x) then 0 else ((outs (kd cs x) d).map fun e=>lvP wd cs q f x e (n - cst (kd cs x))).sum:=by
    funext n; exact paths_len wd cs q f x d n
   rw [hfun]
   simp only [comeT]
   rw [if_neg h0]
   simp only [tapp,List.nil_append]
   unfold inCell
   by_cases k1:kd cs x=1
   ·rw [if_pos k1,sumTo_end _ _ _ _ (by omega),k1]; simp [outs,wsum]
   rw [if_neg k1]
   by_cases k7:kd cs x=7
   ·rw [if_pos k7,sumTo_end _ _ _ _ (by omega),k7]; simp [outs,wsum]
   rw [if_neg k7]
   by_cases k6:kd cs x=6
   ·rw [if_pos k6]
    simp only [tapp,sumTo_append]
    rw [sumTo_end _ _ _ _ (by omega),amt_lv ih _ _ _ (by omega),<- wsum_half _ _ hw,k6]
    simp [outs,cst]
   rw [if_neg k6]
   by_cases k45:kd cs x=4\/kd cs x=5
   ·rw [if_pos k45]
    simp only [tapp,sumTo_append]
    rw [sumTo_end _ _ _ _ (by omega),amt_lv ih _ _ _ (by omega),amt_lv ih _ _ _ (by omega),<- wsum_half _ _ hw,<- wsum_half _ _ hw]
    have ec:cst (kd cs x)=1:=by unfold cst; rw [if_pos (Or.inr k45)]
    have eo:outs (kd cs x) d=[d,turnD (kd cs x) d]:=by unfold outs; rw [if_neg (by omega),if_neg k6,if_pos k45]
    rw [ec,eo]
    have:(fun n=>if n < 1 then 0 else ([d,turnD (kd cs x) d].map fun e=>lvP wd cs q f x e (n - 1)).sum)=fun n=>(if n < 1 then 0 else lvP wd cs q f x d (n - 1)) + (if n < 1 then 0 else lvP wd cs q f x (turnD (kd cs x) d) (n - 1)):=by
     funext n
     split <;> simp
    rw [this,wsum_add]
    omega
   ·rw [if_neg k45,amt_lv ih _ _ _ hw]
    have ec:cst (kd cs x)=0:=by unfold cst; rw [if_neg (by omega)]
    have eo:outs (kd cs x) d=[turnD (kd cs x) d]:=by unfold outs; rw [if_neg (by omega),if_neg k6,if_neg k45]
    rw [ec,eo]
    simp
end Sp
namespace Sp
open Go.RowKit
def bkD (d:Int):Int:=(d + 2) % 4
theorem bkD_in (d:Int):0<=bkD d/\bkD d<=3:=by unfold bkD; omega
theorem bkD_two {d:Int} (h:0<=d/\d<=3):bkD (bkD d)=d:=by unfold bkD; omega
theorem outs_in {k d e:Int} (hd:0<=d/\d<=3) (h:e ∈ outs k d):0<=e/\e<=3:=by
 unfold outs at h
 split at h
 ·simp at h
 ·split at h
  ·simp at h; subst h; exact hd
  ·split at h
   ·simp at h; rcases h with rfl | rfl
    ·exact hd
    ·exact turnD_range hd
   ·simp at h; subst h; exact turnD_range hd
theorem turnD_back {k d:Int} (hd:0<=d/\d<=3):turnD k (bkD (turnD k d))=bkD d:=by
 rw [turnD_in k d hd.1 hd.2]
 rcases (show d=0\/d=1\/d=2\/d=3 by omega) with rfl | rfl | rfl | rfl <;>
  (by_cases c1:k=2\/k=4
   · simp [turnD,slashD,bkD,c1]
   · by_cases c2:k=3\/k=5
     · simp [turnD,bkD,c1,c2]
     · simp [turnD,bkD,c1,c2])
theorem outs_back {k d e:Int} (hd:0<=d/\d<=3) (h:e ∈ outs k d):bkD d ∈ outs k (bkD e):=by
 have tb:=turnD_back (k:=k) hd
 unfold outs at h ⊢
 split at h
 ·simp at h
 ·next n1 =>
  rw [if_neg n1]
  split at h
  ·next n2=>rw [if_pos n2]; simp at h; subst h; simp
  ·next n2 =>
   rw [if_neg n2]
   split at h
   ·next n3 =>
    rw [if_pos n3]
    simp at h
    rcases h with rfl | rfl
    ·simp
    ·simp [tb]
   ·next n3=>rw [if_neg n3]; simp at h; subst h; simp [tb]
theorem outs_nodup {k d:Int} (hd:0<=d/\d<=3):(outs k d).Nodup:=by
 unfold outs
 split
 ·simp
 ·split
  ·simp
  ·split
   ·next n3 =>
    rw [turnD_in k d hd.1 hd.2]
    simp
    unfold slashD
    split
    ·split <;> omega
    ·split <;> omega
   ·simp
def okStp (cs:List (Int × Int)) (t:Stp):Prop:=t.2.2 ∈ outs (kd cs t.1) t.2.1/\okS cs (t.1,t.2.1)
def linked (wd:Int) (cs:List (Int × Int)) (t u:Stp):Prop:=(rayN wd cs t.1 t.2.2).2.2=true/\(rayN wd cs t.1 t.2.2).1=u.1/\u.2.1=t.2.2
def chainL (R:Stp->Stp->Prop):List Stp->Prop
 | []=>True
 | [_]=>True
 | a :: b :: l=>R a b/\chainL R (b :: l)
def costL (cs:List (Int × Int)):List Stp->Nat
 | []=>0
 | t :: r=>cst (kd cs t.1) + costL cs r
theorem costL_append (cs:List (Int × Int)) (a b:List Stp):costL cs (a ++ b)=costL cs a + costL cs b:=by
 induction a with
 | nil=>simp [costL]
 | cons t r ih=>simp only [List.cons_append,costL,ih]; omega
theorem chain_snoc {R:Stp->Stp->Prop}:∀ (l:List Stp) (a b:Stp),chainL R (l ++ [a])->R a b->chainL R (l ++ [a] ++ [b])
 | [],a,b,_,h=>⟨h,trivial⟩
 | [c],a,b,h,h2=>⟨h.1,h2,trivial⟩
 | c :: c2 :: l,a,b,h,h2=>⟨h.1,chain_snoc (c2 :: l) a b h.2 h2⟩
theorem chain_rev {R Q:Stp->Stp->Prop} {g:Stp->Stp}:∀ (l:List Stp),(∀ a ∈ l,∀ b ∈ l,R a b->Q (g b) (g a))->chainL R l->chainL Q (l.map g).reverse
 | [],_,_=>trivial
 | [a],_,_=>trivial
 | a :: b :: l,hR,h=>by
  have ih:=chain_rev (b :: l) (fun x hx y hy=>hR x (List.mem_cons_of_mem _ hx) y (List.mem_cons_of_mem _ hy)) h.2
  simp only [List.map_cons,List.reverse_cons] at ih ⊢
  exact chain_snoc _ _ _ ih (hR a (by simp) b (by simp) h.1)
structure isPath (wd:Int) (cs:List (Int × Int)) (q x d:Int) (n:Nat) (p:List Stp):Prop where
 first:∃ e r,p=(x,d,e) :: r
 oks:∀ t ∈ p,okStp cs t
 chain:chainL (linked wd cs) p
 cost:costL cs p=n
 last:∃ l t,p=l ++ [t]/\(rayN wd cs t.1 t.2.2).2.2=false/\outOf wd cs t.1 t.2.2=q
theorem mem_paths (wd:Int) (cs:List (Int × Int)) (q:Int):∀ f x d n p,okS cs (x,d)->(p ∈ paths wd cs q f x d n ↔ isPath wd cs q x d n p/\p.length<=f):=by
 intro f
 induction f with
 | zero =>
  intro x d n p _
  simp only [paths]
  constructor
  ·intro h; simp at h
  ·rintro ⟨h,hl⟩
   obtain ⟨e,r,rfl⟩:=h.first
   simp at hl
 | succ f ih =>
  intro x d n p hs
  simp only [paths]
  constructor
  ·intro h
   split at h
   ·simp at h
   ·next hn =>
    rw [List.mem_flatMap] at h
    obtain ⟨e,he,h⟩:=h
    have hstp:okStp cs (x,d,e):=⟨he,hs⟩
    split at h
    ·next c =>
     rw [List.mem_map] at h
     obtain ⟨p',hp',rfl⟩:=h
     obtain ⟨r1,r2,_⟩:=rayN_back c
     obtain ⟨hi,hl⟩:=(ih _ _ _ _ (show okS cs ((rayN wd cs x e).1,e) from ⟨r1,r2⟩)).1 hp'
     obtain ⟨e',r',rfl⟩:=hi.first
     refine ⟨⟨⟨e,_,rfl⟩,?_,⟨⟨c,rfl,rfl⟩,hi.chain⟩,?_,?_⟩,by simp at hl ⊢; omega⟩
     ·intro t ht
      rcases List.mem_cons.1 ht with rfl | ht
      ·exact hstp
      ·exact hi.oks t ht
     ·have:=hi.cost
      simp only [costL] at this ⊢
      omega
     ·obtain ⟨l,t,e1,e2,e3⟩:=hi.last
      exact ⟨(x,d,e) :: l,t,by rw [e1]; rfl,e2,e3⟩
    ·next c =>
     split at h
     ·next z =>
      simp at h
      subst h
      refine ⟨⟨⟨e,[],rfl⟩,?_,trivial,?_,⟨[],_,rfl,by simpa using c,z.2⟩⟩,by simp⟩
      ·intro t ht
       simp at ht
       subst ht
       exact hstp
      ·simp only [costL]; omega
     ·simp at h
  ·rintro ⟨h,hl⟩
   obtain ⟨e,r,rfl⟩:=h.first
   have hst:=h.oks (x,d,e) (by simp)
   have hc:=h.cost
   simp only [costL] at hc
   rw [if_neg (by omega),List.mem_flatMap]
   refine ⟨e,hst.1,?_⟩
   cases r with
   | nil =>
    obtain ⟨l,t,e1,e2,e3⟩:=h.last
    have e4:l=[]/\t=(x,d,e):=by
     cases l with
     | nil=>simp at e1; exact ⟨rfl,e1.symm⟩
     | cons a l=>simp at e1
    obtain ⟨rfl,rfl⟩:=e4
    simp only at e2 e3
    rw [if_neg (by simp [e2]),if_pos ⟨by simp only [costL] at hc; omega,e3⟩]
    simp
   | cons u r =>
    obtain ⟨⟨k1,k2,k3⟩,hch⟩:=h.chain
    simp only at k1 k2 k3
    rw [if_pos k1,List.mem_map]
    obtain ⟨r1,r2,_⟩:=rayN_back k1
    refine ⟨u :: r,(ih _ _ _ _ (show okS cs ((rayN wd cs x e).1,e) from ⟨r1,r2⟩)).2 ⟨⟨⟨u.2.2,r,?_⟩,fun t ht=>h.oks t (List.mem_cons_of_mem _ ht),hch,by omega,?_⟩,by simp at hl ⊢; omega⟩,rfl⟩
    ·rw [k2,<- k3]
    ·obtain ⟨l,t,e1,e2,e3⟩:=h.last
     cases l with
     | nil=>simp at e1
     | cons a l =>
      simp only [List.cons_append,List.cons.injEq] at e1
      exact ⟨l,t,e1.2,e2,e3⟩
theorem flat_nodup {α β:Type} (g:α->List β):∀ l:List α,l.Nodup->(∀ a ∈ l,(g a).Nodup)->(∀ a ∈ l,∀ b ∈ l,a ≠ b->∀ x ∈ g a,x ∉ g b)->(l.flatMap g).Nodup:=by
 intro l
 induction l with
 | nil=>intro _ _ _; simp
 | cons a l ih =>
  intro h1 h2 h3
  rw [List.flatMap_cons,List.nodup_append]
  rw [List.nodup_cons] at h1
  refine ⟨h2 a (by simp),ih h1.2 (fun b hb=>h2 b (by simp [hb])) (fun b hb c hc=>h3 b (by simp [hb]) c (by simp [hc])),?_⟩
  intro x hx y hy e
  subst e
  rw [List.mem_flatMap] at hy
  obtain ⟨b,hb,hy⟩:=hy
  exact h3 a (by simp) b (by simp [hb]) (fun e=>h1.1 (e ▸ hb)) x hx hy
theorem map_nodup {α β:Type} (g:α->β) (hg:∀ a b,g a=g b->a=b):∀ l:List α,l.Nodup->(l.map g).Nodup:=by
 intro l
 induction l with
 | nil=>intro _; simp
 | cons a l ih =>
  intro h
  rw [List.nodup_cons] at h
  rw [List.map_cons,List.nodup_cons]
  refine ⟨fun q=>?_,ih h.2⟩
  rw [List.mem_map] at q
  obtain ⟨b,hb,e⟩:=q
  exact h.1 (hg b a e ▸ hb)
theorem paths_nodup (wd:Int) (cs:List (Int × Int)) (q:Int):∀ f x d n,(0<=d/\d<=3)->(paths wd cs q f x d n).Nodup:=by
 intro f
 induction f with
 | zero=>intro x d n _; simp [paths]
 | succ f ih =>
  intro x d n hd
  simp only [paths]
  split
  ·simp
  ·refine flat_nodup _ _ (outs_nodup hd) ?_ ?_
   ·intro e he
    split
    ·exact map_nodup _ (fun a b h=>by simpa using h) _ (ih _ _ _ (outs_in hd he))
    ·split <;> simp
   ·intro e _ e2 _ hne p hp hp2
    have key:∀ e',p ∈ (if (rayN wd cs x e').2.2=true then (paths wd cs q f (rayN wd cs x e').1 e' (n - cst (kd cs x))).map (fun p=>(x,d,e') :: p) else if n=cst (kd cs x)/\outOf wd cs x e'=q then [[(x,d,e')]] else [])->∃ r,p=(x,d,e') :: r:=by
     intro e' h
     split at h
     ·rw [List.mem_map] at h
      obtain ⟨r,_,e⟩:=h
      exact ⟨r,e.symm⟩
     ·split at h
      ·simp at h; exact ⟨[],h⟩
      ·simp at h
    obtain ⟨r1,q1⟩:=key e hp
    obtain ⟨r2,q2⟩:=key e2 hp2
    rw [q1] at q2
    simp at q2
    exact hne q2.1
theorem nodup_le {α:Type} [DecidableEq α]:∀ (l1 l2:List α),l1.Nodup->(∀ a ∈ l1,a ∈ l2)->l1.length<=l2.length:=by
 intro l1
 induction l1 with
 | nil=>intro _ _ _; simp
 | cons a r ih =>
  intro l2 h1 h2
  rw [List.nodup_cons] at h1
  have ha:=h2 a (by simp)
  have h3:=ih (l2.erase a) h1.2 (fun b hb=>(List.mem_erase_of_ne (fun e=>by subst e; exact h1.1 hb)).2 (h2 b (by simp [hb])))
  have h4:=List.length_erase_of_mem ha
  have h5:=List.length_pos_of_mem ha
  simp only [List.length_cons]
  omega
theorem count_le {α β:Type} [DecidableEq β] (g:α->β) (g':β->α) (l1:List α) (l2:List β) (h1:l1.Nodup) (h2:∀ p ∈ l1,g p ∈ l2) (h3:∀ p ∈ l1,g' (g p)=p):l1.length<=l2.length:=by
 have hm:(l1.map g).Nodup:=by
  clear h2
  induction l1 with
  | nil=>simp
  | cons a l ih =>
   rw [List.nodup_cons] at h1
   rw [List.map_cons,List.nodup_cons]
   refine ⟨fun q=>?_,ih h1.2 (fun p hp=>h3 p (by simp [hp]))⟩
   rw [List.mem_map] at q
   obtain ⟨b,hb,e⟩:=q
   have e1:=h3 b (by simp [hb])
   have e2:=h3 a (by simp)
   rw [e,e2] at e1
   exact h1.1 (e1 ▸ hb)
 have:=nodup_le (l1.map g) l2 hm (fun b hb=>by rw [List.mem_map] at hb; obtain ⟨a,ha,rfl⟩:=hb; exact h2 a ha)
 simpa using this
def rvS (t:Stp):Stp:=(t.1,bkD t.2.2,bkD t.2.1)
def rvP (p:List Stp):List Stp:=(p.map rvS).reverse
theorem rvP_two {cs:List (Int × Int)} {p:List Stp} (h:∀ t ∈ p,okStp cs t):rvP (rvP p)=p:=by
 unfold rvP
 rw [List.map_reverse,List.reverse_reverse,List.map_map]
 have:p.map (rvS ∘ rvS)=p.map id:=by
  apply List.map_congr_left
  intro t ht
  have hs:=h t ht
  have hd:0<=t.2.1/\t.2.1<=3:=hs.2.2
  have he:=outs_in hd hs.1
  show (t.1,bkD (bkD t.2.1),bkD (bkD t.2.2))=t
  rw [bkD_two hd,bkD_two he]
 rw [this,List.map_id]
theorem rv_ok {cs:List (Int × Int)} {t:Stp} (h:okStp cs t):okStp cs (rvS t):=⟨outs_back h.2.2 h.1,h.2.1,bkD_in _⟩
theorem rv_linked {wd:Int} {cs:List (Int × Int)} {t u:Stp} (h:linked wd cs t u):linked wd cs (rvS u) (rvS t):=by
 obtain ⟨h1,h2,h3⟩:=h
 have b:=(rayN_back h1).2.2
 rw [h2] at b
 have e:(rayN wd cs (rvS u).1 (rvS u).2.2)=(t.1,(t.2.2 + 2) % 4,true):=by
  show rayN wd cs u.1 (bkD u.2.1)=_
  rw [h3]; exact b
 exact ⟨by rw [e],by rw [e]; rfl,by show bkD t.2.2=bkD u.2.1; rw [h3]⟩
theorem rv_cost (cs:List (Int × Int)) (p:List Stp):costL cs (rvP p)=costL cs p:=by
 unfold rvP
 induction p with
 | nil=>rfl
 | cons t r ih =>
  simp only [List.map_cons,List.reverse_cons,costL_append,ih]
  simp only [costL,rvS]
  omega
theorem rv_path {wd:Int} {cs:List (Int × Int)} (hok:okG wd cs=true) {k q x d y e:Int} {n:Nat} {p:List Stp} (hk:inRay wd cs k=(x,d,true)) (hq:inRay wd cs q=(y,e,true)) (h:isPath wd cs q x d n p):isPath wd cs k y e n (rvP p):=by
 obtain ⟨e1,r,hp⟩:=h.first
 obtain ⟨l,t,hl,ht1,ht2⟩:=h.last
 have htm:t ∈ p:=by rw [hl]; simp
 have hts:=h.oks t htm
 have hte:=outs_in hts.2.2 hts.1
 have hst:inRay wd cs q=(t.1,(t.2.2 + 2) % 4,true):=by
  rcases out_fact hok (x:=t.1) (d:=t.2.2) hts.2.1 hte with ⟨x2,d2,z,_⟩ | ⟨_,z⟩
  ·rw [z] at ht1; cases ht1
  ·rw [ht2] at z; exact z
 rw [hq] at hst
 simp only [Prod.mk.injEq] at hst
 obtain ⟨hd,b1,b2,_⟩:=back_fact hk
 refine ⟨⟨bkD t.2.1,(l.map rvS).reverse,?_⟩,?_,chain_rev p (fun a _ b _ z=>rv_linked z) h.chain,by rw [rv_cost]; exact h.cost,⟨(r.map rvS).reverse,rvS (x,d,e1),?_,?_,?_⟩⟩
 ·unfold rvP
  rw [hl,List.map_append,List.reverse_append]
  show rvS t :: (l.map rvS).reverse=_
  rw [hst.1,hst.2.1]
  rfl
 ·intro u hu
  unfold rvP at hu
  rw [List.mem_reverse,List.mem_map] at hu
  obtain ⟨z,hz,rfl⟩:=hu
  exact rv_ok (h.oks z hz)
 ·unfold rvP
  rw [hp,List.map_cons,List.reverse_cons]
 ·show (rayN wd cs x (bkD d)).2.2=false
  rw [show rayN wd cs x (bkD d)=(0,0,false) from b1]
 ·exact b2
theorem paths_back {wd:Int} {cs:List (Int × Int)} (hok:okG wd cs=true) {k q x d y e:Int} (hk:inRay wd cs k=(x,d,true)) (hq:inRay wd cs q=(y,e,true)) (f n:Nat):(paths wd cs q f x d n).length<=(paths wd cs k f y e n).length:=by
 have s1:=(enough_sight hk).1
 have s2:=(enough_sight hq).1
 refine count_le rvP rvP _ _ (paths_nodup wd cs q f x d n s1.2) ?_ ?_
 ·intro p hp
  obtain ⟨h,hl⟩:=(mem_paths wd cs q f x d n p s1).1 hp
  exact (mem_paths wd cs k f y e n (rvP p) s2).2 ⟨rv_path hok hk hq h,by simpa [rvP] using hl⟩
 ·intro p hp
  exact rvP_two ((mem_paths wd cs q f x d n p s1).1 hp).1.oks
theorem inS_ray {wd:Int} {cs:List (Int × Int)} {k:Int} (h:inS wd cs k=true):∃ x d,inRay wd cs k=(x,d,true):=by
 have hok:=inS_ok h
 simp only [inS,decide_eq_true_eq] at h
 unfold inRay
 rw [if_pos ⟨hok,h.1,h.2⟩]
 exact ⟨_,_,rfl⟩
theorem to_back {wd:Int} {cs:List (Int × Int)} {k q:Int} (hk:inS wd cs k=true) (hq:inS wd cs q=true):toN wd cs k q=toN wd cs q k:=by
 have hok:=inS_ok hk
 obtain ⟨x,d,r1⟩:=inS_ray hk
 obtain ⟨y,e,r2⟩:=inS_ray hq
 unfold toN trailT
 rw [if_pos hk,if_pos hq,r1,r2]
 simp only
 rw [amt wd cs q 707 x d 64 (by omega),amt wd cs k 707 y e 64 (by omega)]
 have:(fun n=>(paths wd cs q 707 x d n).length)=fun n=>(paths wd cs k 707 y e n).length:=by
  funext n
  exact Nat.le_antisymm (paths_back hok r1 r2 707 n) (paths_back hok r2 r1 707 n)
 rw [this]
end Sp
namespace Sp
open Go.RowKit
end Sp
namespace Sp
open Go.RowKit
end Sp
namespace Sp
open Go.RowKit
end Sp
namespace Sp
open Go.RowKit
structure RowV (w:World) (g m:Nat) (c:Nat->Value):Prop where
 lt:g < w.heap.size
 at':∀ i,i < m->w.cell? ⟨g,i,none⟩=some (c i)
 fz:∀ i,i < m->w.frozen? ⟨g,i,none⟩=false
theorem RowV.below {w w':World} {g m:Nat} {c:Nat->Value} (h:RowV w g m c) (hb:Below w.heap.size w w'):RowV w' g m c :=
 ⟨Nat.lt_of_lt_of_le h.lt hb.size,fun i hi=>keepc hb (h.at' i hi),fun i hi=>keepf hb (h.at' i hi) (h.fz i hi)⟩
theorem RowV.grown {w w':World} {g m:Nat} {c:Nat->Value} {r:Option Nat} (h:RowV w g m c) (hg:w.grownBy w' r) (hne:some g ≠ r):RowV w' g m c :=
 ⟨Nat.lt_of_lt_of_le h.lt hg.size,fun i hi=>hg.cell (h.at' i hi) hne,fun i hi=>(hg.frozen_far ⟨g,i,none⟩ h.lt hne).trans (h.fz i hi)⟩
theorem RowV.put {w:World} {g m:Nat} {c c':Nat->Value} (h:RowV w g m c) (i:Nat) (v:Value) (hi:i < m) (h1:c' i=v) (h2:∀ j,j < m->j ≠ i->c' j=c j):RowV (w.setCell ⟨g,i,none⟩ v) g m c':=by
 refine ⟨by simpa using h.lt,fun j hj=>?_,fun j hj=>?_⟩
 ·by_cases e:j=i
  ·subst e
   rw [World.cell?_setCell_same _ _ _ (by rw [h.at' j hj]),h1]
  ·have q:(⟨g,i,none⟩:Addr) ≠ ⟨g,j,none⟩:=fun z=>e (Addr.mk.inj z).2.1.symm
   rw [World.cell?_setCell_other _ _ _ _ q,h2 j hj e]
   exact h.at' j hj
 ·simpa using h.fz j hj
theorem RowV.like {w:World} {g m:Nat} {c c':Nat->Value} (h:RowV w g m c) (h2:∀ j,j < m->c' j=c j):RowV w g m c' :=
 ⟨h.lt,fun j hj=>by rw [h2 j hj]; exact h.at' j hj,h.fz⟩
theorem ownsRow_mono {w:World} {B B':Nat} {e:TypeId} {s:Nat} {v:Value} {n:Nat} {xs:List Value} (h:w.ownsRow B e s v n xs) (hB:B'<=B):w.ownsRow B' e s v n xs:=by
 obtain ⟨h1,h2⟩:=h
 refine ⟨h1,?_⟩
 rcases h2 with h2 | ⟨g,cap,cur,hv,hg,r⟩
 ·exact Or.inl h2
 ·exact Or.inr ⟨g,cap,cur,hv,Nat.le_trans hB hg,r⟩
end Sp
end Go.Proofs.YtmmeapmlfopleaaGreat
