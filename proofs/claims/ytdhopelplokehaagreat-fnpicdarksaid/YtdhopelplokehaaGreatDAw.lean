/- Of the proof: PJl, PJn, PJp -/
import Derived.Test.YtdhopelplokehaaGreatDAv
set_option maxHeartbeats 4000000
set_option linter.unusedVariables false
namespace Go.Proofs.YtdhopelplokehaaGreat
namespace Sp
open Go.RowKit
def sumW:List (Int × Int × Int)->Int
 | []=>0
 | t :: r=>t.2.2 + sumW r
theorem sumW_append (a b:List (Int × Int × Int)):sumW (a ++ b)=sumW a + sumW b:=by
 induction a with
 | nil=>simp [sumW]
 | cons t r ih=>simp only [List.cons_append,sumW,ih]; omega
def EndOk (wd:Int) (cs:List (Int × Int)) (t:Int × Int × Int):Prop :=
 1<=t.2.2/\((t.1=0/\0<=t.2.1/\t.2.1 < manyG wd cs)\/((0<=t.2.1/\t.2.1 < (cs.length:Int))/\((t.1=1/\kd cs t.2.1=1)\/(t.1=2/\kd cs t.2.1=7)\/(t.1=3/\(kd cs t.2.1=4\/kd cs t.2.1=5\/kd cs t.2.1=6)))))
def VisOk (cs:List (Int × Int)) (wt:Nat) (t:Int × Int × Int):Prop:=okS cs (t.1,t.2.1)/\1<=t.2.2/\t.2.2<=(wt:Int)
structure TrOk (wd:Int) (cs:List (Int × Int)) (wt:Nat) (t:Tr):Prop where
 sum:sumW t.2=(wt:Int)
 ends : ∀ u ∈ t.2, EndOk wd cs u
 vis:∀ u ∈ t.1,VisOk cs wt u
theorem trok_app {wd:Int} {cs:List (Int × Int)} {m n wt:Nat} {a b:Tr} (ha:TrOk wd cs m a) (hb:TrOk wd cs n b) (h:m + n=wt):TrOk wd cs wt (tapp a b):=by
 refine ⟨?_,?_,?_⟩
 ·simp only [tapp,sumW_append,ha.sum,hb.sum]; omega
 ·intro u hu
  simp only [tapp,List.mem_append] at hu
  rcases hu with q | q
  ·exact ha.ends u q
  ·exact hb.ends u q
 ·intro u hu
  simp only [tapp,List.mem_append] at hu
  rcases hu with q | q
  ·obtain ⟨h1,h2,h3⟩:=ha.vis u q; exact ⟨h1,h2,by omega⟩
  ·obtain ⟨h1,h2,h3⟩:=hb.vis u q; exact ⟨h1,h2,by omega⟩
theorem trok_nil (wd:Int) (cs:List (Int × Int)):TrOk wd cs 0 ([],[]):=⟨rfl,by simp,by simp⟩
theorem trok_end {wd:Int} {cs:List (Int × Int)} {k x:Int} {wt:Nat} (h:0 < wt->EndOk wd cs (k,x,(wt:Int))):TrOk wd cs wt (endT k x wt):=by
 unfold endT
 by_cases h0:wt=0
 ·subst h0; exact trok_nil wd cs
 ·rw [if_neg h0]
  refine ⟨by simp [sumW],?_,by simp⟩
  intro u hu
  simp only [List.mem_singleton] at hu
  subst hu
  exact h (by omega)
theorem trok_lv {wd:Int} {cs:List (Int × Int)} {f:Nat} (hok:okG wd cs=true) (ih:∀ x d wt,okS cs (x,d)->enough wd cs f x d wt->TrOk wd cs wt (comeT wd cs f x d wt)) (x e:Int) (h:Nat) (hs:okS cs (x,e)) (hE:lvE wd cs (enough wd cs f) x e h) :
  TrOk wd cs h (lvT wd cs (comeT wd cs f) x e h):=by
 unfold lvT
 by_cases h0:h=0
 ·subst h0; rw [if_pos rfl]; exact trok_nil wd cs
 ·rw [if_neg h0]
  by_cases c:(rayN wd cs x e).2.2=true
  ·rw [if_pos c]
   obtain ⟨r1,r2,_⟩:=rayN_back c
   rcases hE with q | q | q
   ·exact absurd q h0
   ·rw [c] at q; cases q
   ·exact ih _ _ _ ⟨r1,r2⟩ q
  ·rw [if_neg c]
   refine trok_end fun _=>⟨by simp only; omega,Or.inl ⟨rfl,?_⟩⟩
   rcases out_fact hok hs.1 hs.2 with ⟨x2,d2,q,_⟩ | ⟨_,q⟩
   ·simp only at q
    rw [q] at c
    exact absurd rfl c
   ·simp only at q
    unfold inRay at q
    split at q
    ·next z=>exact z.2
    ·simp at q
theorem trok_come {wd:Int} {cs:List (Int × Int)} (hok:okG wd cs=true):∀ f x d wt,okS cs (x,d)->enough wd cs f x d wt->TrOk wd cs wt (comeT wd cs f x d wt):=by
 intro f
 induction f with
 | zero =>
  intro x d wt _ hE
  have:wt=0:=hE
  subst this
  exact trok_nil wd cs
 | succ f ih =>
  intro x d wt hs hE
  by_cases h0:wt=0
  ·subst h0; rw [comeT_zero]; exact trok_nil wd cs
  ·simp only [comeT]
   rw [if_neg h0]
   have hst:okS cs (x,turnD (kd cs x) d):=⟨hs.1,turnD_range hs.2⟩
   have hI:TrOk wd cs wt (inCell wd cs (comeT wd cs f) x d wt):=by
    unfold inCell
    by_cases k1:kd cs x=1
    ·rw [if_pos k1]; exact trok_end fun _=>⟨by simp only; omega,Or.inr ⟨hs.1,Or.inl ⟨rfl,k1⟩⟩⟩
    rw [if_neg k1]
    by_cases k7:kd cs x=7
    ·rw [if_pos k7]; exact trok_end fun _=>⟨by simp only; omega,Or.inr ⟨hs.1,Or.inr (Or.inl ⟨rfl,k7⟩)⟩⟩
    rw [if_neg k7]
    by_cases k6:kd cs x=6
    ·rw [if_pos k6]
     have hE1:lvE wd cs (enough wd cs f) x d (wt / 2):=by
      rcases hE with q | q | ⟨_,q⟩ | ⟨q,_⟩ | ⟨q,_⟩
      ·exact absurd q h0
      ·omega
      ·exact q
      ·omega
      ·exact absurd k6 q.2.2.1
     exact trok_app (trok_end fun q=>⟨by simp only; omega,Or.inr ⟨hs.1,Or.inr (Or.inr ⟨rfl,Or.inr (Or.inr k6)⟩)⟩⟩) (trok_lv hok ih x d _ hs hE1) (by omega)
    rw [if_neg k6]
    by_cases k45:kd cs x=4\/kd cs x=5
    ·rw [if_pos k45]
     have hE1:lvE wd cs (enough wd cs f) x d (wt / 2)/\lvE wd cs (enough wd cs f) x (turnD (kd cs x) d) (wt / 2):=by
      rcases hE with q | q | ⟨q,_⟩ | ⟨_,q,q2⟩ | ⟨q,_⟩
      ·exact absurd q h0
      ·omega
      ·exact absurd q k6
      ·exact ⟨q,q2⟩
      ·rcases k45 with z | z
       ·exact absurd z q.2.2.2.1
       ·exact absurd z q.2.2.2.2
     refine trok_app (m:=wt - 2 * (wt / 2)) (n:=wt / 2 + wt / 2) (trok_end fun q=>⟨by simp only; omega,Or.inr ⟨hs.1,Or.inr (Or.inr ⟨rfl,?_⟩)⟩⟩) (trok_app (trok_lv hok ih x d _ hs hE1.1) (trok_lv hok ih x _ _ hst hE1.2) rfl) (by omega)
     rcases k45 with z | z
     ·exact Or.inl z
     ·exact Or.inr (Or.inl z)
    ·rw [if_neg k45]
     refine trok_lv hok ih x _ _ hst ?_
     rcases hE with q | q | ⟨q,_⟩ | ⟨q,_⟩ | ⟨_,q⟩
     ·exact absurd q h0
     ·omega
     ·exact absurd q k6
     ·exact absurd q k45
     ·exact q
   refine ⟨by simp only [tapp,List.nil_append]; exact hI.sum,by simp only [tapp,List.nil_append]; exact hI.ends,?_⟩
   intro u hu
   simp only [tapp,List.mem_append,List.mem_singleton] at hu
   rcases hu with q | q
   ·subst q; exact ⟨hs,by simp only; omega,by simp only; omega⟩
   ·exact hI.vis u q
theorem trail_ok {wd:Int} {cs:List (Int × Int)} {k:Int} (h:inS wd cs k=true):TrOk wd cs 64 (trailT wd cs k):=by
 have hok:=inS_ok h
 obtain ⟨W,H,S⟩:=siz_of hok
 have hk:=h
 simp only [inS,decide_eq_true_eq,S.em] at hk
 obtain ⟨K,rfl⟩:=Int.eq_ofNat_of_zero_le hk.1
 obtain ⟨x,d,hs⟩:∃ x d,sRay (W:Int) (H:Int) (K:Int)=(x,d):=⟨_,_,rfl⟩
 have hr:inRay wd cs (K:Int)=(x,d,true):=by rw [inRay_at S K (by omega),hs]
 obtain ⟨h1,hE⟩:=enough_sight hr
 unfold trailT
 rw [if_pos h,hr]
 exact trok_come hok 707 x d 64 h1 hE
end Sp
namespace Sp
open Go.RowKit
def R3At (w:World) (a:Option Addr) (es:List (Int × Int × Int)):Prop:=es=[]\/∃ b off,a=some ⟨b,off,none⟩/\b < w.heap.size/\∀ i,i < es.length ->
 w.cell? ⟨b,off + i * 3,none⟩=some (.int .i64 (es.getD i (0,0,0)).1)/\w.cell? ⟨b,off + i * 3 + 1,none⟩=some (.int .i64 (es.getD i (0,0,0)).2.1)/\w.cell? ⟨b,off + i * 3 + 2,none⟩=some (.int .i64 (es.getD i (0,0,0)).2.2)
theorem R3At.below {w w':World} {a:Option Addr} {es:List (Int × Int × Int)} (h:R3At w a es) (hb:Below w.heap.size w w'):R3At w' a es:=by
 rcases h with h | ⟨b,off,rfl,hbl,hc⟩
 ·exact Or.inl h
 ·exact Or.inr ⟨b,off,rfl,Nat.lt_of_lt_of_le hbl hb.size,fun i hi=>⟨keepc hb (hc i hi).1,keepc hb (hc i hi).2.1,keepc hb (hc i hi).2.2⟩⟩
theorem flat3_at (es:List (Int × Int × Int)):∀ i,i < es.length->(flat3 es)[i * 3]?=some (.int .i64 (es.getD i (0,0,0)).1)/\(flat3 es)[i * 3 + 1]?=some (.int .i64 (es.getD i (0,0,0)).2.1)/\(flat3 es)[i * 3 + 2]?=some (.int .i64 (es.getD i (0,0,0)).2.2):=by
 induction es with
 | nil=>intro i h; simp at h
 | cons t r ih =>
  intro i hi
  cases i with
  | zero=>exact ⟨rfl,rfl,rfl⟩
  | succ i =>
   have:=ih i (by simpa using hi)
   have e:flat3 (t :: r)=.int .i64 t.1 :: .int .i64 t.2.1 :: .int .i64 t.2.2 :: flat3 r:=rfl
   rw [e,show (i + 1) * 3=i * 3 + 3 by omega]
   exact this
theorem row3_at {w:World} {B:Nat} {t:TypeId} {v:Value} {es:List (Int × Int × Int)} (h:w.ownsRow B t 3 v es.length (flat3 es)):∃ a cap,v=.slice a es.length cap/\R3At w a es:=by
 obtain ⟨h1,h2⟩:=h
 rcases h2 with ⟨rfl,h2⟩ | ⟨g,cap,cur,rfl,hg,hh,_,_,_,ht⟩
 ·exact ⟨none,0,by rw [h2],Or.inl (List.length_eq_zero_iff.1 h2)⟩
 ·refine ⟨_,cap,rfl,Or.inr ⟨g,0,rfl,(Array.getElem?_eq_some_iff.1 hh).1,fun i hi=>?_⟩⟩
  have key:∀ j,j < es.length * 3->w.cell? ⟨g,j,none⟩=(flat3 es)[j]?:=by
   intro j hj
   rw [cell_of_row w g j cur t (0,0) hh,<- ht,List.getElem?_take_of_lt hj]
   simp
  obtain ⟨q1,q2,q3⟩:=flat3_at es i hi
  simp only [Nat.zero_add]
  exact ⟨by rw [key _ (by omega)]; exact q1,by rw [key _ (by omega)]; exact q2,by rw [key _ (by omega)]; exact q3⟩
def sumTo (q0:Int):List (Int × Int × Int)->Int
 | []=>0
 | t :: r=>(if t.1=0/\t.2.1=q0 then t.2.2 else 0) + sumTo q0 r
theorem sumTo_append (q0:Int) (a b:List (Int × Int × Int)):sumTo q0 (a ++ b)=sumTo q0 a + sumTo q0 b:=by
 induction a with
 | nil=>simp [sumTo]
 | cons t r ih=>simp only [List.cons_append,sumTo,ih]; omega
theorem sumTo_in (q0:Int) (l:List (Int × Int × Int)) (h:∀ u ∈ l,1<=u.2.2):0<=sumTo q0 l/\sumTo q0 l<=sumW l:=by
 induction l with
 | nil=>simp [sumTo,sumW]
 | cons t r ih =>
  have h1:=h t (by simp)
  have h2:=ih (fun u hu=>h u (by simp [hu]))
  simp only [sumTo,sumW]
  split <;> omega
theorem sumW_pos (l:List (Int × Int × Int)) (h:∀ u ∈ l,1<=u.2.2):0<=sumW l:=by
 have:=sumTo_in 0 l h
 omega
theorem take_one {α:Type} (l:List α) (i:Nat) (z:α) (h:i < l.length):l.take (i + 1)=l.take i ++ [l.getD i z]:=by
 rw [List.take_succ_eq_append_getElem h]
 simp [List.getElem?_eq_getElem h]
theorem sum_take {es:List (Int × Int × Int)} (h:∀ u ∈ es,1<=u.2.2) (i:Nat):sumW (es.take i)<=sumW es:=by
 have e:=sumW_append (es.take i) (es.drop i)
 rw [List.take_append_drop] at e
 have:=sumW_pos (es.drop i) (fun u hu=>h u (List.mem_of_mem_drop hu))
 omega
def toN (wd:Int) (cs:List (Int × Int)) (k q0:Int):Int:=sumTo q0 (trailT wd cs k).2
end Sp
namespace Sp
open Go.RowKit
def ltC (cs:List (Int × Int)) (x:Int):Int:=(cs.getD x.toNat (0,0)).2
def sumL (cs:List (Int × Int)):List (Int × Int × Int)->Int
 | []=>0
 | t :: r=>(if t.1=2 then t.2.2 * ltC cs t.2.1 else 0) + sumL cs r
theorem sumL_append (cs:List (Int × Int)) (a b:List (Int × Int × Int)):sumL cs (a ++ b)=sumL cs a + sumL cs b:=by
 induction a with
 | nil=>simp [sumL]
 | cons t r ih=>simp only [List.cons_append,sumL,ih]; omega
def LampOk (cs:List (Int × Int)) (u:Int × Int × Int):Prop:=1<=u.2.2/\(u.1=2->(0<=u.2.1/\u.2.1 < (cs.length:Int))/\1<=ltC cs u.2.1/\ltC cs u.2.1<=9)
theorem sumL_in (cs:List (Int × Int)) (l:List (Int × Int × Int)) (h:∀ u ∈ l,LampOk cs u):0<=sumL cs l/\sumL cs l<=9 * sumW l:=by
 induction l with
 | nil=>simp [sumL,sumW]
 | cons t r ih =>
  obtain ⟨h1,h2⟩:=h t (by simp)
  have h3:=ih (fun u hu=>h u (by simp [hu]))
  simp only [sumL,sumW]
  split
  ·next q =>
   obtain ⟨_,q1,q2⟩:=h2 q
   have m1:0<=t.2.2 * ltC cs t.2.1:=Int.mul_nonneg (by omega) (by omega)
   have m2:t.2.2 * ltC cs t.2.1<=t.2.2 * 9:=Int.mul_le_mul_of_nonneg_left q2 (by omega)
   omega
  ·omega
theorem lamp_of {wd:Int} {cs:List (Int × Int)} (hok:okG wd cs=true) {u:Int × Int × Int} (h:EndOk wd cs u):LampOk cs u:=by
 refine ⟨h.1,fun e=>?_⟩
 rcases h.2 with ⟨q,_⟩ | ⟨hx,q | q | q⟩
 ·omega
 ·omega
 ·refine ⟨hx,?_⟩
  obtain ⟨Y,hY⟩:=Int.eq_ofNat_of_zero_le hx.1
  have hlt:Y < cs.length:=by omega
  have hc:=okG_cell wd cs hok Y hlt
  have hk:=q.2
  rw [hY] at hk ⊢
  simp only [kd,ltC,Int.toNat_natCast,List.getD_eq_getElem?_getD,List.getElem?_eq_getElem hlt,Option.getD_some] at hk ⊢
  rw [hk] at hc
  simpa [okC] using hc
 ·omega
set_option maxRecDepth 20000 in
theorem l11Light_any (wd:Int) (a:Option Addr) (cap:Nat) (cs:List (Int × Int)) (w:World) (h:CellsAt w a cs) (hm:cs.length<=1048576) (a2:Option Addr) (c2:Nat) (es:List (Int × Int × Int)) (hR:R3At w a2 es) (hP:∀ u ∈ es,LampOk cs u) (hsum:sumW es<=64) :
  Calls SqP.prog 66 #[.agg #[.int .i64 wd,.slice a cs.length cap],.slice a2 es.length c2] w fun e w'=>e=.returned (.int .i64 (sumL cs es))/\Below w.heap.size w w':=by
 have hpos:∀ u ∈ es,1<=u.2.2:=fun u hu=>(hP u hu).1
 have hlen:es.length<=64:=by
  have key:∀ l:List (Int × Int × Int),(∀ u ∈ l,1<=u.2.2)->(l.length:Int)<=sumW l:=by
   intro l
   induction l with
   | nil=>intro _; simp [sumW]
   | cons t r ih =>
    intro q
    have q1:=q t (by simp)
    have q2:=ih (fun u hu=>q u (by simp [hu]))
    simp only [sumW,List.length_cons]
    omega
  have:=key es hpos
  omega
 obtain ⟨R,hRR⟩:∃ R,sumL cs es=R:=⟨_,rfl⟩
 rw [hRR]
 have ER:Hid (sumL cs es=R):=hRR
 have HB:Hid (∀ i,0<=sumL cs (es.take i)/\sumL cs (es.take i)<=576):=by
  intro i
  have q1:=sumL_in cs (es.take i) (fun u hu=>hP u (List.mem_of_mem_take hu))
  have q2:=sum_take hpos i
  omega
 have HP:Hid (∀ u ∈ es,LampOk cs u):=hP
 have HQ:Hid (∀ u ∈ es,u.2.2<=64):=by
  intro u hu
  obtain ⟨l1,l2,e⟩:=List.append_of_mem hu
  have q1:=sumW_append l1 (u :: l2)
  rw [<- e] at q1
  simp only [sumW] at q1
  have q2:=sumW_pos l1 (fun z hz=>hpos z (by rw [e]; simp [hz]))
  have q3:=sumW_pos l2 (fun z hz=>hpos z (by rw [e]; simp [hz]))
  omega
 have hb0:Below w.heap.size w (w.alloc (.cells #[.int .i64 wd,.slice a cs.length cap] 25)):=bel
 have g1:(w.alloc (.cells #[.int .i64 wd,.slice a cs.length cap] 25)).cell? ⟨w.heap.size,1,none⟩=some (.slice a cs.length cap):=by simp [go_sem]
 have hC0:=h.below hb0
 have hR0:=hR.below hb0
 clear hRR hP hpos h hR
 go_enter SqP.func66,Tryz.ntmps66
 go_wp2_with fail
 obtain ⟨w0,hw0⟩:∃ w0,w0=w.alloc (.cells #[.int .i64 wd,.slice a cs.length cap] 25):=⟨_,rfl⟩
 rw [<- hw0] at hb0 g1 hC0 hR0 ⊢
 clear hw0
 go_loopw [5,6] (fun nn ii wr=>∃ i:Nat,i<=es.length/\ii=.int .i64 i/\nn=.int .i64 (sumL cs (es.take i))/\Below w0.heap.size w0 wr) (fun _ ii _=>es.length - (intOf ii).toNat)
 case atStart=>exact ⟨0,Nat.zero_le _,rfl,rfl,Below.refl _ _⟩
 case round =>
  rename World=>wo
  obtain ⟨i,hi,rfl,rfl,hb⟩:=hrel
  replace g1:=keepc hb g1
  replace hC0:=hC0.below hb
  replace hR0:=hR0.below hb
  obtain ⟨s,es0⟩:∃ s,sumL cs (es.take i)=s:=⟨_,rfl⟩
  have hsb:=HB.out i
  have hsb2:=HB.out (i + 1)
  rw [es0] at hsb ⊢
  by_cases hlt:i < es.length
  ·rcases hR0 with q | ⟨b,off,rfl,hbl,hc⟩
   ·rw [q] at hlt; simp at hlt
   obtain ⟨t,et⟩:∃ t,es.getD i (0,0,0)=t:=⟨_,rfl⟩
   have hmem:t ∈ es:=by rw [<- et]; simp [List.getElem?_eq_getElem hlt]
   obtain ⟨z0,z1,z2⟩:=hc i hlt
   rw [et] at z0 z1 z2
   obtain ⟨hw1,hlm⟩:=HP.out t hmem
   have hw2:=HQ.out t hmem
   have hst:sumL cs (es.take (i + 1))=s + (if t.1=2 then t.2.2 * ltC cs t.2.1 else 0):=by
    rw [take_one es i (0,0,0) hlt,sumL_append,es0,et]
    simp [sumL]
   obtain ⟨t0,t1,t2⟩:=t
   simp only at z0 z1 z2 hw1 hw2 hst hlm
   clear hmem et hc
   by_cases e0:t0=2
   ·rw [if_pos e0] at hst
    obtain ⟨hx,hl1,hl2⟩:=hlm e0
    obtain ⟨Y,rfl⟩:=Int.eq_ofNat_of_zero_le hx.1
    have hY:Y < cs.length:=by omega
    obtain ⟨lt',elt⟩:∃ l,ltC cs (Y:Int)=l:=⟨_,rfl⟩
    rw [elt] at hst hl1 hl2
    rcases hC0 with q | ⟨bc,oc,rfl,hbc,hcc⟩
    ·rw [q] at hY; simp at hY
    have zc:=(hcc Y hY).2
    have zc':wo.cell? ⟨bc,oc + Y * 2 + 1,none⟩=some (.int .i64 lt'):=by
     rw [zc,<- elt]; simp [ltC]
    obtain ⟨p,ep⟩:∃ p,t2 * lt'=p:=⟨_,rfl⟩
    rw [ep] at hst
    have hp0:0<=p:=by rw [<- ep]; exact Int.mul_nonneg (by omega) (by omega)
    have hp1:p<=576:=by
     rw [<- ep]
     exact Int.le_trans (Int.mul_le_mul hw2 hl2 (by omega) (by omega)) (by omega)
    have wp:IntKind.i64.wrap (t2 * lt')=p:=by rw [ep]; exact IntWalk.i64_in _ (by omega)
    have ws:IntKind.i64.wrap (s + p)=s + p:=IntWalk.i64_in _ (by omega)
    have HST:Hid (sumL cs (es.take (i + 1))=s + p):=hst
    have b0:(t0 == 2)=true:=by simp [e0]
    have hYl:(Y:Int) < (cs.length:Int):=by omega
    clear hst e0 es0 zc ep elt hcc hlm hsb2
    go_wp2_with fail
    go_quiet (fail)
    have hbq:Below w0.heap.size w0 (wo.drewN nq):=⟨hb.os,hb.tape,hb.output,hb.size,hb.block⟩
    go_wp2_with fail
    go_roundw
    case rel=>exact ⟨i + 1,by omega,by go_num,by rw [HST.out],hbq⟩
    case measure=>simp [intOf]; omega
   ·rw [if_neg e0] at hst
    have HST:Hid (sumL cs (es.take (i + 1))=s):=by show _=_; rw [hst]; omega
    have b0:(t0 == 2)=false:=by simp [e0]
    clear hst e0 es0 hlm hsb2
    go_wp2_with fail
    go_roundw
    case rel=>exact ⟨i + 1,by omega,by go_num,by rw [HST.out],hb⟩
    case measure=>simp [intOf]; omega
  ·have hfin:s=R:=by rw [<- es0,<- ER.out,List.take_of_length_le (by omega)]
   subst hfin
   clear es0
   go_wp2_with fail
   go_ret
   exact ⟨rfl,bcall hb0 hb0.size hb⟩
def lightN (wd:Int) (cs:List (Int × Int)) (k:Int):Int:=sumL cs (trailT wd cs k).2
end Sp
namespace Sp
open Go.RowKit
end Sp
namespace Sp
open Go.RowKit
theorem inS_ray {wd:Int} {cs:List (Int × Int)} {k:Int} (h:inS wd cs k=true):∃ x d,inRay wd cs k=(x,d,true):=by
 have hok:=inS_ok h
 simp only [inS,decide_eq_true_eq] at h
 unfold inRay
 rw [if_pos ⟨hok,h.1,h.2⟩]
 exact ⟨_,_,rfl⟩
end Sp
namespace Sp
open Go.RowKit
theorem rayN_same {wd:Int} {cs cs':List (Int × Int)} (h:okG wd cs=true) (h':okG wd cs'=true) (hl:cs'.length=cs.length) (x d:Int):rayN wd cs' x d=rayN wd cs x d:=by
 unfold rayN
 rw [h,h',hl]
theorem manyG_same {wd:Int} {cs cs':List (Int × Int)} (h:okG wd cs=true) (h':okG wd cs'=true) (hl:cs'.length=cs.length):manyG wd cs'=manyG wd cs:=by
 unfold manyG
 rw [h,h',hl]
theorem outOf_same {wd:Int} {cs cs':List (Int × Int)} (h:okG wd cs=true) (h':okG wd cs'=true) (hl:cs'.length=cs.length) (x d:Int):outOf wd cs' x d=outOf wd cs x d:=by
 unfold outOf
 rw [manyG_same h h' hl,h,h',hl]
theorem inRay_same {wd:Int} {cs cs':List (Int × Int)} (h:okG wd cs=true) (h':okG wd cs'=true) (hl:cs'.length=cs.length) (k:Int):inRay wd cs' k=inRay wd cs k:=by
 unfold inRay
 rw [manyG_same h h' hl,h,h',hl]
theorem inS_same {wd:Int} {cs cs':List (Int × Int)} (h:okG wd cs=true) (h':okG wd cs'=true) (hl:cs'.length=cs.length) (k:Int):inS wd cs' k=inS wd cs k:=by
 unfold inS
 rw [manyG_same h h' hl]
def toWall (t:Int × Int × Int):Int × Int × Int:=if t.1=2 then (1,t.2.1,t.2.2) else t
def wallT (t:Tr):Tr:=(t.1,t.2.map toWall)
theorem wallT_app (a b:Tr):wallT (tapp a b)=tapp (wallT a) (wallT b):=by simp [wallT,tapp]
theorem wallT_end (k x:Int) (wt:Nat):wallT (endT k x wt)=endT (if k=2 then 1 else k) x wt:=by
 unfold wallT endT
 by_cases h:wt=0
 ·simp [h]
 ·by_cases c:k=2
  ·simp [h,toWall,c]
  ·simp [h,toWall,c]
theorem lv_wall {wd:Int} {cs cs':List (Int × Int)} (h:okG wd cs=true) (h':okG wd cs'=true) (hl:cs'.length=cs.length) {f:Nat} (ih:∀ x d wt,comeT wd cs' f x d wt=wallT (comeT wd cs f x d wt)) (x e:Int) (n:Nat) :
  lvT wd cs' (comeT wd cs' f) x e n=wallT (lvT wd cs (comeT wd cs f) x e n):=by
 unfold lvT
 rw [rayN_same h h' hl,outOf_same h h' hl]
 by_cases h0:n=0
 ·rw [if_pos h0,if_pos h0]; rfl
 ·rw [if_neg h0,if_neg h0]
  by_cases c:(rayN wd cs x e).2.2=true
  ·rw [if_pos c,if_pos c]; exact ih _ _ _
  ·rw [if_neg c,if_neg c,wallT_end,if_neg (by omega)]
theorem come_wall {wd:Int} {cs cs':List (Int × Int)} (h:okG wd cs=true) (h':okG wd cs'=true) (hl:cs'.length=cs.length) (hk:∀ x,kd cs' x=if kd cs x=7 then 1 else kd cs x):∀ f x d wt,comeT wd cs' f x d wt=wallT (comeT wd cs f x d wt):=by
 intro f
 induction f with
 | zero=>intro x d wt; rfl
 | succ f ih =>
  intro x d wt
  simp only [comeT]
  by_cases h0:wt=0
  ·rw [if_pos h0,if_pos h0]; rfl
  ·rw [if_neg h0,if_neg h0,wallT_app]
   have e0:wallT ([(x,d,(wt:Int))],[])=([(x,d,(wt:Int))],[]):=by simp [wallT]
   rw [e0]
   congr 1
   unfold inCell
   rw [hk x]
   by_cases k7:kd cs x=7
   ·rw [if_pos k7,if_pos rfl,if_neg (by omega),if_pos k7,wallT_end,if_pos rfl]
   rw [if_neg k7]
   by_cases k1:kd cs x=1
   ·rw [if_pos k1,if_pos k1,wallT_end,if_neg (by omega)]
   rw [if_neg k1,if_neg k1,if_neg k7,if_neg k7]
   by_cases k6:kd cs x=6
   ·rw [if_pos k6,if_pos k6,wallT_app,wallT_end,if_neg (by omega),lv_wall h h' hl ih]
   rw [if_neg k6,if_neg k6]
   by_cases k45:kd cs x=4\/kd cs x=5
   ·rw [if_pos k45,if_pos k45,wallT_app,wallT_app,wallT_end,if_neg (by omega),lv_wall h h' hl ih,lv_wall h h' hl ih]
   ·rw [if_neg k45,if_neg k45,lv_wall h h' hl ih]
end Sp
namespace Sp
open Go.RowKit
end Sp
namespace Sp
open Go.RowKit
theorem trail_at {wd:Int} {cs:List (Int × Int)} {k x d:Int} (hk:inS wd cs k=true) (hr:inRay wd cs k=(x,d,true)):trailT wd cs k=comeT wd cs 707 x d 64:=by
 unfold trailT
 rw [if_pos hk,hr]
end Sp
namespace Sp
open Go.RowKit
structure RowV (w:World) (g m:Nat) (c:Nat->Value):Prop where
 lt:g < w.heap.size
 at':∀ i,i < m->w.cell? ⟨g,i,none⟩=some (c i)
 fz:∀ i,i < m->w.frozen? ⟨g,i,none⟩=false
theorem RowV.below {w w':World} {g m:Nat} {c:Nat->Value} (h:RowV w g m c) (hb:Below w.heap.size w w'):RowV w' g m c :=
 ⟨Nat.lt_of_lt_of_le h.lt hb.size,fun i hi=>keepc hb (h.at' i hi),fun i hi=>keepf hb (h.at' i hi) (h.fz i hi)⟩
theorem RowV.grown {w w':World} {g m:Nat} {c:Nat->Value} {r:Option Nat} (h:RowV w g m c) (hg:w.grownBy w' r) (hne:some g ≠ r):RowV w' g m c :=
 ⟨Nat.lt_of_lt_of_le h.lt hg.size,fun i hi=>hg.cell (h.at' i hi) hne,fun i hi=>(hg.frozen_far ⟨g,i,none⟩ h.lt hne).trans (h.fz i hi)⟩
theorem RowV.put {w:World} {g m:Nat} {c c':Nat->Value} (h:RowV w g m c) (i:Nat) (v:Value) (hi:i < m) (h1:c' i=v) (h2:∀ j,j < m->j ≠ i->c' j=c j):RowV (w.setCell ⟨g,i,none⟩ v) g m c':=by
 refine ⟨by simpa using h.lt,fun j hj=>?_,fun j hj=>?_⟩
 ·by_cases e:j=i
  ·subst e
   rw [World.cell?_setCell_same _ _ _ (by rw [h.at' j hj]),h1]
  ·have q:(⟨g,i,none⟩:Addr) ≠ ⟨g,j,none⟩:=fun z=>e (Addr.mk.inj z).2.1.symm
   rw [World.cell?_setCell_other _ _ _ _ q,h2 j hj e]
   exact h.at' j hj
 ·simpa using h.fz j hj
theorem RowV.like {w:World} {g m:Nat} {c c':Nat->Value} (h:RowV w g m c) (h2:∀ j,j < m->c' j=c j):RowV w g m c' :=
 ⟨h.lt,fun j hj=>by rw [h2 j hj]; exact h.at' j hj,h.fz⟩
def intsV (xs:List Int):List Value:=xs.map fun x=>.int .i64 x
def OwnI (w:World) (B:Nat) (v:Value) (xs:List Int):Prop:=w.ownsRow B 3 1 v xs.length (intsV xs)
theorem ownsRow_mono {w:World} {B B':Nat} {e:TypeId} {s:Nat} {v:Value} {n:Nat} {xs:List Value} (h:w.ownsRow B e s v n xs) (hB:B'<=B):w.ownsRow B' e s v n xs:=by
 obtain ⟨h1,h2⟩:=h
 refine ⟨h1,?_⟩
 rcases h2 with h2 | ⟨g,cap,cur,hv,hg,r⟩
 ·exact Or.inl h2
 ·exact Or.inr ⟨g,cap,cur,hv,Nat.le_trans hB hg,r⟩
end Sp
end Go.Proofs.YtdhopelplokehaaGreat
