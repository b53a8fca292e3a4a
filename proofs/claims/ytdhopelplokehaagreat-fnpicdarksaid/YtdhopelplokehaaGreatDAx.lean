/- Of the proof: PJt -/
import Derived.WalkSmall
import Derived.Deep.RegionHeldLaw
import Derived.Deep.DrawnRows
import Derived.Deep.LoopGhost
import Derived.Test.YtdhopelplokehaaGreatDAw
set_option linter.unusedVariables false
namespace Go.Proofs.YtdhopelplokehaaGreat
namespace Sp
open Go.RowKit
theorem inCell_congr {wd:Int} {cs:List (Int × Int)} {go go':Int->Int->Nat->Tr} {x d:Int} {wt:Nat}
  (h6:kd cs x=6->lvT wd cs go x d (wt / 2)=lvT wd cs go' x d (wt / 2))
  (h45:kd cs x=4\/kd cs x=5->lvT wd cs go x d (wt / 2)=lvT wd cs go' x d (wt / 2)/\lvT wd cs go x (turnD (kd cs x) d) (wt / 2)=lvT wd cs go' x (turnD (kd cs x) d) (wt / 2))
  (hp:pureK (kd cs x)->lvT wd cs go x (turnD (kd cs x) d) wt=lvT wd cs go' x (turnD (kd cs x) d) wt):inCell wd cs go x d wt=inCell wd cs go' x d wt:=by
 unfold inCell
 by_cases k1:kd cs x=1
 ·rw [if_pos k1,if_pos k1]
 rw [if_neg k1,if_neg k1]
 by_cases k7:kd cs x=7
 ·rw [if_pos k7,if_pos k7]
 rw [if_neg k7,if_neg k7]
 by_cases k6:kd cs x=6
 ·rw [if_pos k6,if_pos k6,h6 k6]
 rw [if_neg k6,if_neg k6]
 by_cases k45:kd cs x=4\/kd cs x=5
 ·rw [if_pos k45,if_pos k45,(h45 k45).1,(h45 k45).2]
 rw [if_neg k45,if_neg k45]
 exact hp ⟨k1,k7,k6,fun q=>k45 (Or.inl q),fun q=>k45 (Or.inr q)⟩
theorem sub_enough {wd:Int} {cs:List (Int × Int)} {f:Nat} {x d:Int} {wt:Nat} (hE:enough wd cs (f + 1) x d wt) (h0:wt ≠ 0) :
  (kd cs x=6->lvE wd cs (enough wd cs f) x d (wt / 2))/\(kd cs x=4\/kd cs x=5->lvE wd cs (enough wd cs f) x d (wt / 2)/\lvE wd cs (enough wd cs f) x (turnD (kd cs x) d) (wt / 2)) /\
   (pureK (kd cs x)->lvE wd cs (enough wd cs f) x (turnD (kd cs x) d) wt):=by
 rcases hE with q | q | ⟨q,q1⟩ | ⟨q,q1,q2⟩ | ⟨q,q1⟩
 ·exact absurd q h0
 ·refine ⟨fun z=>by omega,fun z=>by omega,fun z=>?_⟩
  rcases q with q | q
  ·exact absurd q z.1
  ·exact absurd q z.2.1
 ·exact ⟨fun _=>q1,fun z=>by omega,fun z=>absurd q z.2.2.1⟩
 ·refine ⟨fun z=>by omega,fun _=>⟨q1,q2⟩,fun z=>?_⟩
  rcases q with q | q
  ·exact absurd q z.2.2.2.1
  ·exact absurd q z.2.2.2.2
 ·refine ⟨fun z=>absurd z q.2.2.1,fun z=>?_,fun _=>q1⟩
  rcases z with z | z
  ·exact absurd z q.2.2.2.1
  ·exact absurd z q.2.2.2.2
theorem lv_stable {wd:Int} {cs:List (Int × Int)} {f:Nat} (ih:∀ x d wt,enough wd cs f x d wt->comeT wd cs (f + 1) x d wt=comeT wd cs f x d wt) {x e:Int} {h:Nat} (hE:lvE wd cs (enough wd cs f) x e h) :
  lvT wd cs (comeT wd cs (f + 1)) x e h=lvT wd cs (comeT wd cs f) x e h:=by
 unfold lvT
 by_cases h0:h=0
 ·rw [if_pos h0,if_pos h0]
 ·rw [if_neg h0,if_neg h0]
  by_cases c:(rayN wd cs x e).2.2=true
  ·rw [if_pos c,if_pos c]
   rcases hE with q | q | q
   ·exact absurd q h0
   ·rw [c] at q; cases q
   ·exact ih _ _ _ q
  ·rw [if_neg c,if_neg c]
theorem come_stable (wd:Int) (cs:List (Int × Int)):∀ f x d wt,enough wd cs f x d wt->comeT wd cs (f + 1) x d wt=comeT wd cs f x d wt:=by
 intro f
 induction f with
 | zero =>
  intro x d wt h
  have q:wt=0:=h
  subst q
  rw [comeT_zero,comeT_zero]
 | succ f ih =>
  intro x d wt h
  by_cases h0:wt=0
  ·subst h0; rw [comeT_zero,comeT_zero]
  ·obtain ⟨s6,s45,sp⟩:=sub_enough h h0
   have e:inCell wd cs (comeT wd cs (f + 1)) x d wt=inCell wd cs (comeT wd cs f) x d wt:=inCell_congr (fun q=>lv_stable ih (s6 q)) (fun q=>⟨lv_stable ih (s45 q).1,lv_stable ih (s45 q).2⟩) (fun q=>lv_stable ih (sp q))
   show (if wt=0 then (([],[]):Tr) else tapp ([(x,d,(wt:Int))],[]) (inCell wd cs (comeT wd cs (f + 1)) x d wt))=(if wt=0 then (([],[]):Tr) else tapp ([(x,d,(wt:Int))],[]) (inCell wd cs (comeT wd cs f) x d wt))
   rw [e]
theorem come_unf {wd:Int} {cs:List (Int × Int)} {f:Nat} {x d:Int} {wt:Nat} (h:enough wd cs f x d wt) (h0:wt ≠ 0):comeT wd cs f x d wt=tapp ([(x,d,(wt:Int))],[]) (inCell wd cs (comeT wd cs f) x d wt):=by
 have e:=come_stable wd cs f x d wt h
 rw [<- e]
 show (if wt=0 then (([],[]):Tr) else tapp ([(x,d,(wt:Int))],[]) (inCell wd cs (comeT wd cs f) x d wt))=_
 rw [if_neg h0]
abbrev Bm:=Int × Int × Int
def lvB (wd:Int) (cs:List (Int × Int)) (b:Bm):Tr:=lvT wd cs (comeT wd cs 707) b.1 b.2.1 b.2.2.toNat
def pend (wd:Int) (cs:List (Int × Int)):List Bm->Tr
 | []=>([],[])
 | b :: r=>tapp (pend wd cs r) (lvB wd cs b)
theorem nil_tapp (a:Tr):tapp ([],[]) a=a:=by simp [tapp]
theorem pend_snoc (wd:Int) (cs:List (Int × Int)) (l:List Bm) (b:Bm):pend wd cs (l ++ [b])=tapp (lvB wd cs b) (pend wd cs l):=by
 induction l with
 | nil=>simp [pend,nil_tapp,tapp_nil]
 | cons c r ih=>simp only [List.cons_append,pend,ih,tapp_assoc]
def bm1 (x e:Int) (h:Nat):List Bm:=if h=0 then [] else [(x,e,(h:Int))]
theorem pend_bm (wd:Int) (cs:List (Int × Int)) (l:List Bm) (x e:Int) (h:Nat):pend wd cs (l ++ bm1 x e h)=tapp (lvT wd cs (comeT wd cs 707) x e h) (pend wd cs l):=by
 unfold bm1
 by_cases h0:h=0
 ·rw [if_pos h0]
  unfold lvT
  rw [if_pos h0,nil_tapp,List.append_nil]
 ·rw [if_neg h0,pend_snoc]
  simp [lvB]
def okB (wd:Int) (cs:List (Int × Int)) (b:Bm):Prop:=okS cs (b.1,b.2.1)/\(1<=b.2.2/\b.2.2<=64)/\lvE wd cs (enough wd cs 707) b.1 b.2.1 b.2.2.toNat
theorem okB_bm {wd:Int} {cs:List (Int × Int)} {x e:Int} {h:Nat} (hs:okS cs (x,e)) (hw:h<=64) (hE:h ≠ 0->lvE wd cs (enough wd cs 707) x e h):∀ b ∈ bm1 x e h,okB wd cs b:=by
 intro b hb
 unfold bm1 at hb
 by_cases h0:h=0
 ·rw [if_pos h0] at hb; cases hb
 ·rw [if_neg h0] at hb
  simp only [List.mem_singleton] at hb
  subst hb
  exact ⟨hs,⟨by simp only; omega,by simp only; omega⟩,by simpa using hE h0⟩
def fateN (k:Int) (wt:Nat):Int × Nat × Nat × Nat :=
 if k=1 then (1,wt,0,0) else if k=7 then (2,wt,0,0) else if k=6 then (3,wt - wt / 2,wt / 2,0)
 else if k=4\/k=5 then (3,wt - 2 * (wt / 2),wt / 2,wt / 2) else if k=2\/k=3 then (0,0,0,wt) else (0,0,wt,0)
theorem turnD_free {d:Int} (hd:0<=d/\d<=3):turnD 0 d=d:=by
 rw [turnD_in 0 d hd.1 hd.2]
 simp
theorem fate_cell {wd:Int} {cs:List (Int × Int)} {x d:Int} {wt:Nat} (hd:0<=d/\d<=3) (hk:0<=kd cs x/\kd cs x<=7) (go:Int->Int->Nat->Tr) {how:Int} {en on tu:Nat} (hf:fateN (kd cs x) wt=(how,en,on,tu)) :
  inCell wd cs go x d wt=tapp (endT how x en) (tapp (lvT wd cs go x d on) (lvT wd cs go x (turnD (kd cs x) d) tu)):=by
 have z:∀ e,lvT wd cs go x e 0=([],[]):=fun e=>by unfold lvT; rw [if_pos rfl]
 have zn:∀ k,endT k x 0=([],[]):=fun k=>by simp [endT]
 unfold inCell
 unfold fateN at hf
 by_cases k1:kd cs x=1
 ·rw [if_pos k1] at hf ⊢
  simp only [Prod.mk.injEq] at hf
  obtain ⟨rfl,rfl,rfl,rfl⟩:=hf
  rw [z,z,tapp_nil,tapp_nil]
 rw [if_neg k1] at hf ⊢
 by_cases k7:kd cs x=7
 ·rw [if_pos k7] at hf ⊢
  simp only [Prod.mk.injEq] at hf
  obtain ⟨rfl,rfl,rfl,rfl⟩:=hf
  rw [z,z,tapp_nil,tapp_nil]
 rw [if_neg k7] at hf ⊢
 by_cases k6:kd cs x=6
 ·rw [if_pos k6] at hf ⊢
  simp only [Prod.mk.injEq] at hf
  obtain ⟨rfl,rfl,rfl,rfl⟩:=hf
  rw [z,tapp_nil]
 rw [if_neg k6] at hf ⊢
 by_cases k45:kd cs x=4\/kd cs x=5
 ·rw [if_pos k45] at hf ⊢
  simp only [Prod.mk.injEq] at hf
  obtain ⟨rfl,rfl,rfl,rfl⟩:=hf
  rfl
 rw [if_neg k45] at hf ⊢
 by_cases k23:kd cs x=2\/kd cs x=3
 ·rw [if_pos k23] at hf
  simp only [Prod.mk.injEq] at hf
  obtain ⟨rfl,rfl,rfl,rfl⟩:=hf
  rw [z,zn,nil_tapp,nil_tapp]
 ·rw [if_neg k23] at hf
  simp only [Prod.mk.injEq] at hf
  obtain ⟨rfl,rfl,rfl,rfl⟩:=hf
  have k0:kd cs x=0:=by omega
  rw [k0,turnD_free hd,z,zn,nil_tapp,tapp_nil]
theorem fate_le (k:Int) (wt:Nat) {how:Int} {en on tu:Nat} (hf:fateN k wt=(how,en,on,tu)):en<=wt/\on<=wt/\tu<=wt:=by
 unfold fateN at hf
 repeat' split at hf
 all_goals (simp only [Prod.mk.injEq] at hf; obtain ⟨rfl,rfl,rfl,rfl⟩:=hf; omega)
theorem fate_enough {wd:Int} {cs:List (Int × Int)} {f:Nat} {x d:Int} {wt:Nat} (hd:0<=d/\d<=3) (hk:0<=kd cs x/\kd cs x<=7) (hE:enough wd cs (f + 1) x d wt) (h0:wt ≠ 0) {how:Int} {en on tu:Nat} (hf:fateN (kd cs x) wt=(how,en,on,tu)) :
  (on ≠ 0->lvE wd cs (enough wd cs (f + 1)) x d on)/\(tu ≠ 0->lvE wd cs (enough wd cs (f + 1)) x (turnD (kd cs x) d) tu):=by
 obtain ⟨s6,s45,sp⟩:=sub_enough hE h0
 have up:∀ {e:Int} {h:Nat},lvE wd cs (enough wd cs f) x e h->lvE wd cs (enough wd cs (f + 1)) x e h:=fun q=>lvE_mono (enough_succ wd cs f) q
 unfold fateN at hf
 by_cases k1:kd cs x=1
 ·rw [if_pos k1] at hf
  simp only [Prod.mk.injEq] at hf
  obtain ⟨rfl,rfl,rfl,rfl⟩:=hf
  exact ⟨fun q=>absurd rfl q,fun q=>absurd rfl q⟩
 rw [if_neg k1] at hf
 by_cases k7:kd cs x=7
 ·rw [if_pos k7] at hf
  simp only [Prod.mk.injEq] at hf
  obtain ⟨rfl,rfl,rfl,rfl⟩:=hf
  exact ⟨fun q=>absurd rfl q,fun q=>absurd rfl q⟩
 rw [if_neg k7] at hf
 by_cases k6:kd cs x=6
 ·rw [if_pos k6] at hf
  simp only [Prod.mk.injEq] at hf
  obtain ⟨rfl,rfl,rfl,rfl⟩:=hf
  exact ⟨fun _=>up (s6 k6),fun q=>absurd rfl q⟩
 rw [if_neg k6] at hf
 by_cases k45:kd cs x=4\/kd cs x=5
 ·rw [if_pos k45] at hf
  simp only [Prod.mk.injEq] at hf
  obtain ⟨rfl,rfl,rfl,rfl⟩:=hf
  exact ⟨fun _=>up (s45 k45).1,fun _=>up (s45 k45).2⟩
 rw [if_neg k45] at hf
 have hp:pureK (kd cs x):=⟨k1,k7,k6,fun q=>k45 (Or.inl q),fun q=>k45 (Or.inr q)⟩
 by_cases k23:kd cs x=2\/kd cs x=3
 ·rw [if_pos k23] at hf
  simp only [Prod.mk.injEq] at hf
  obtain ⟨rfl,rfl,rfl,rfl⟩:=hf
  exact ⟨fun q=>absurd rfl q,fun _=>up (sp hp)⟩
 ·rw [if_neg k23] at hf
  simp only [Prod.mk.injEq] at hf
  obtain ⟨rfl,rfl,rfl,rfl⟩:=hf
  have k0:kd cs x=0:=by omega
  refine ⟨fun _=>?_,fun q=>absurd rfl q⟩
  have:=sp hp
  rw [k0,turnD_free hd] at this
  exact up this
theorem visit_fact {wd:Int} {cs:List (Int × Int)} {x d:Int} {wt:Nat} (hs:okS cs (x,d)) (hk:0<=kd cs x/\kd cs x<=7) (h0:wt ≠ 0) (hw:wt<=64) (hE:enough wd cs 707 x d wt) {how:Int} {en on tu:Nat} (hf:fateN (kd cs x) wt=(how,en,on,tu)) (T:Tr) (st:List Bm) :
  tapp (tapp (T.1 ++ [(x,d,(wt:Int))],T.2) (endT how x en)) (pend wd cs (st ++ bm1 x (turnD (kd cs x) d) tu ++ bm1 x d on))=tapp T (tapp (comeT wd cs 707 x d wt) (pend wd cs st)) /\
   ∀ b ∈ bm1 x (turnD (kd cs x) d) tu ++ bm1 x d on,okB wd cs b:=by
 have e1:((T.1 ++ [(x,d,(wt:Int))],T.2):Tr)=tapp T ([(x,d,(wt:Int))],[]):=by simp [tapp]
 obtain ⟨l1,l2,l3⟩:=fate_le _ _ hf
 obtain ⟨q1,q2⟩:=fate_enough (f:=706) hs.2 hk hE h0 hf
 refine ⟨?_,?_⟩
 ·rw [pend_bm,pend_bm,come_unf hE h0,fate_cell hs.2 hk _ hf,e1]
  simp only [tapp_assoc]
 ·intro b hb
  rcases List.mem_append.1 hb with q | q
  ·exact okB_bm (show okS cs (x,turnD (kd cs x) d) from ⟨hs.1,turnD_range hs.2⟩) (by omega) q2 b q
  ·exact okB_bm hs (by omega) q1 b q
end Sp
namespace Sp
open Go.RowKit
def tyR (j:Nat):TypeId:=if j=0 then 108 else if j=1 then 62 else 161
def upd {α:Type} (f:Nat->α) (j:Nat) (x:α):Nat->α:=fun i=>if i=j then x else f i
theorem upd_same {α:Type} (f:Nat->α) (j:Nat) (x:α):upd f j x j=x:=by simp [upd]
theorem upd_other {α:Type} (f:Nat->α) (j i:Nat) (x:α) (h:i ≠ j):upd f j x i=f i:=by simp [upd,h]
structure Tk (w:World) (B pb:Nat) (v:Nat->Value) (L:Nat->List (Int × Int × Int)):Prop where
 c:∀ j,j < 3->w.cell? ⟨pb,j,none⟩=some (v j)
 f:∀ j,j < 3->w.frozen? ⟨pb,j,none⟩=false
 o:∀ j,j < 3->w.ownsRow B (tyR j) 3 (v j) (L j).length (flat3 (L j))
 hB:B<=pb
 d:∀ j,j < 3->(v j).ownBlock ≠ some pb
 dd:∀ i j,i < 3->j < 3->i ≠ j->∀ g,(v i).ownBlock=some g->(v j).ownBlock ≠ some g
theorem Tk.lt {w:World} {B pb:Nat} {v:Nat->Value} {L:Nat->List (Int × Int × Int)} (h:Tk w B pb v L):pb < w.heap.size:=World.block_lt_of_cell? w _ (h.c 0 (by omega))
theorem Tk.below {w w':World} {B pb:Nat} {v:Nat->Value} {L:Nat->List (Int × Int × Int)} (h:Tk w B pb v L) (hb:Below w.heap.size w w'):Tk w' B pb v L :=
 ⟨fun j hj=>keepc hb (h.c j hj),fun j hj=>keepf hb (h.c j hj) (h.f j hj),
  fun j hj=>(h.o j hj).kept (row:=none) ⟨hb.os,hb.tape,hb.output,hb.size,fun k hk _=>hb.block k hk⟩ (by by_cases q:(v j).ownBlock=none; exact Or.inl q; exact Or.inr q),h.hB,h.d,h.dd⟩
theorem Tk.like {w:World} {B pb:Nat} {v:Nat->Value} {L L':Nat->List (Int × Int × Int)} (h:Tk w B pb v L) (e:∀ j,j < 3->L' j=L j):Tk w B pb v L' :=
 ⟨h.c,h.f,fun j hj=>by rw [e j hj]; exact h.o j hj,h.hB,h.d,h.dd⟩
def Far (v:Nat->Value) (pb b:Nat):Prop:=b ≠ pb/\∀ j,j < 3->(v j).ownBlock ≠ some b
theorem Tk.far {w:World} {B pb:Nat} {v:Nat->Value} {L:Nat->List (Int × Int × Int)} (h:Tk w B pb v L) {b:Nat} (hb:w.heap.size<=b):Far v pb b :=
 ⟨fun q=>by have:=h.lt; omega,fun j hj q=>by have:=((h.o j hj).lt b q).2; omega⟩
theorem Tk.farB {w:World} {B pb:Nat} {v:Nat->Value} {L:Nat->List (Int × Int × Int)} (h:Tk w B pb v L) {b:Nat} (hb:b < B):Far v pb b :=
 ⟨fun q=>by have:=h.hB; omega,fun j hj q=>by have:=((h.o j hj).lt b q).1; omega⟩
structure Fr (w w':World) (pb:Nat) (v v2:Nat->Value):Prop where
 os:w'.os=w.os
 tape:w'.tape=w.tape
 output:w'.output=w.output
 size:w.heap.size<=w'.heap.size
 block:∀ b,b < w.heap.size->Far v pb b->w'.heap[b]?=w.heap[b]?/\Far v2 pb b
theorem Fr.trans {w w1 w2:World} {pb:Nat} {v v1 v2:Nat->Value} (h:Fr w w1 pb v v1) (g:Fr w1 w2 pb v1 v2):Fr w w2 pb v v2 :=
 ⟨g.os.trans h.os,g.tape.trans h.tape,g.output.trans h.output,Nat.le_trans h.size g.size,fun b hb hf=>by
  obtain ⟨e1,f1⟩:=h.block b hb hf
  obtain ⟨e2,f2⟩:=g.block b (Nat.lt_of_lt_of_le hb h.size) f1
  exact ⟨e2.trans e1,f2⟩⟩
theorem Fr.of {w w':World} {pb:Nat} {v:Nat->Value} (h:Below w.heap.size w w'):Fr w w' pb v v :=
 ⟨h.os,h.tape,h.output,h.size,fun b hb hf=>⟨h.block b hb,hf⟩⟩
theorem Fr.below {w w':World} {B pb:Nat} {v v2:Nat->Value} {L:Nat->List (Int × Int × Int)} (f:Fr w w' pb v v2) (h:Tk w B pb v L):Below B w w' :=
 ⟨f.os,f.tape,f.output,f.size,fun k hk=>(f.block k (by have:=h.lt; have:=h.hB; omega) (h.farB hk)).1⟩
theorem Fr.cell {w w':World} {pb:Nat} {v v2:Nat->Value} (f:Fr w w' pb v v2) {b o:Nat} {u:Value} (hf:Far v pb b) (h:w.cell? ⟨b,o,none⟩=some u):w'.cell? ⟨b,o,none⟩=some u:=by
 rw [World.cell?_of_block (w:=w) (f.block b (World.block_lt_of_cell? w _ h) hf).1]
 exact h
theorem Fr.frozen {w w':World} {pb:Nat} {v v2:Nat->Value} (f:Fr w w' pb v v2) {b o:Nat} {u:Value} {c:Bool} (hf:Far v pb b) (h:w.cell? ⟨b,o,none⟩=some u) (hz:w.frozen? ⟨b,o,none⟩=c):w'.frozen? ⟨b,o,none⟩=c:=by
 rw [World.frozen?_of_block (w:=w) (f.block b (World.block_lt_of_cell? w _ h) hf).1]
 exact hz
theorem Fr.far {w w':World} {pb:Nat} {v v2:Nat->Value} (f:Fr w w' pb v v2) {b:Nat} (hb:b < w.heap.size) (hf:Far v pb b):Far v2 pb b:=(f.block b hb hf).2
theorem CellsAt.belowB {w w':World} {B:Nat} {a:Option Addr} {cs:List (Int × Int)} (h:CellsAt w a cs) (ha:∀ b off,a=some ⟨b,off,none⟩->b < B) (hb:Below B w w'):CellsAt w' a cs:=by
 rcases h with q | ⟨b,off,rfl,hbl,hc⟩
 ·exact Or.inl q
 ·have hbB:=ha b off rfl
  refine Or.inr ⟨b,off,rfl,Nat.lt_of_lt_of_le hbl hb.size,fun i hi=>?_⟩
  rw [hb.cell (p:=⟨b,off + i * 2,none⟩) hbB,hb.cell (p:=⟨b,off + i * 2 + 1,none⟩) hbB]
  exact hc i hi
theorem Tk.push {w w6:World} {B pb:Nat} {v:Nat->Value} {L:Nat->List (Int × Int × Int)} {o:Obj} {g6 k6:Nat} {x y z:Int} (h:Tk w B pb v L) (j:Nat) (hj:j < 3)
  (hO:w6.ownsRow B (tyR j) 3 (.slice (some ⟨g6,0,none⟩) ((L j).length + 1) k6) ((L j).length + 1) (flat3 (L j) ++ [.int .i64 x,.int .i64 y,.int .i64 z])) (hg:(w.alloc o).grownBy w6 (v j).ownBlock) (hat:(v j).ownBlock=some g6\/g6=w.heap.size + 1) :
  (w6.cell? ⟨pb,j,none⟩=some (v j)/\w6.frozen? ⟨pb,j,none⟩=false)/\Tk (w6.setCell ⟨pb,j,none⟩ (.slice (some ⟨g6,0,none⟩) ((L j).length + 1) k6)) B pb (upd v j (.slice (some ⟨g6,0,none⟩) ((L j).length + 1) k6)) (upd L j (L j ++ [(x,y,z)])) /\
   Fr w (w6.setCell ⟨pb,j,none⟩ (.slice (some ⟨g6,0,none⟩) ((L j).length + 1) k6)) pb v (upd v j (.slice (some ⟨g6,0,none⟩) ((L j).length + 1) k6)):=by
 have hpb:pb < w.heap.size:=h.lt
 have hbA:Below w.heap.size w (w.alloc o):=(Below.refl _ _).alloc (Nat.le_refl _) o
 have hp:some pb ≠ (v j).ownBlock:=fun q=>h.d j hj q.symm
 have hz:=hg.size
 simp at hz
 have hgp:g6 ≠ pb:=by
  rcases hat with q | q
  ·intro q2; subst q2; exact h.d j hj q
  ·omega
 have cell:∀ i u,w.cell? ⟨pb,i,none⟩=some u->w6.cell? ⟨pb,i,none⟩=some u:=fun i u q=>hg.cell (keepc hbA q) hp
 have froz:∀ i,w.frozen? ⟨pb,i,none⟩=false->w6.frozen? ⟨pb,i,none⟩=false:=fun i q=>by
  rw [hg.frozen_far ⟨pb,i,none⟩ (by simp; omega) hp,hbA.frozen (p:=⟨pb,i,none⟩) hpb]; exact q
 have hfr:Fr w (w6.setCell ⟨pb,j,none⟩ (.slice (some ⟨g6,0,none⟩) ((L j).length + 1) k6)) pb v (upd v j (.slice (some ⟨g6,0,none⟩) ((L j).length + 1) k6)):=by
  refine ⟨hg.os.trans hbA.os,hg.tape.trans hbA.tape,hg.output.trans hbA.output,by rw [World.size_setCell]; omega,fun b hb hf=>⟨?_,hf.1,?_⟩⟩
  ·rw [Below.heap_setCell w6 ⟨pb,j,none⟩ _ b hf.1,hg.block b (by simp; omega) (fun q=>hf.2 j hj q.symm)]
   exact hbA.block b hb
  ·intro i hi
   by_cases q:i=j
   ·subst q
    rw [upd_same]
    simp only [Value.ownBlock]
    intro z
    simp only [Option.some.injEq] at z
    subst z
    rcases hat with q2 | q2
    ·exact hf.2 i hi q2
    ·omega
   ·rw [upd_other _ _ _ _ q]; exact hf.2 i hi
 refine ⟨⟨cell _ _ (h.c j hj),froz _ (h.f j hj)⟩,?_,hfr⟩
 have hoth:∀ i,i < 3->i ≠ j->w6.ownsRow B (tyR i) 3 (v i) (L i).length (flat3 (L i)):=fun i hi hij=>((h.o i hi).alloc o).kept hg (by
  by_cases q:(v i).ownBlock=none
  ·exact Or.inl q
  ·right; intro q2; obtain ⟨g,hg2⟩:∃ g,(v i).ownBlock=some g:=Option.ne_none_iff_exists'.1 q
   exact h.dd i j hi hj hij g hg2 (q2 ▸ hg2))
 have hlen:(L j ++ [(x,y,z)]).length=(L j).length + 1:=by simp
 have hfl:flat3 (L j ++ [(x,y,z)])=flat3 (L j) ++ [.int .i64 x,.int .i64 y,.int .i64 z]:=by rw [flat3_append]; rfl
 refine ⟨?_,?_,?_,h.hB,?_,?_⟩
 ·intro i hi
  by_cases q:i=j
  ·subst q; rw [upd_same]; exact World.cell?_setCell_same _ _ _ (by rw [cell _ _ (h.c i hi)])
  ·rw [upd_other _ _ _ _ q]; exact setO q (cell _ _ (h.c i hi))
 ·intro i hi
  simpa using froz _ (h.f i hi)
 ·intro i hi
  by_cases q:i=j
  ·subst q
   rw [upd_same,upd_same,hlen,hfl]
   exact ownsRow_setCell_other hO (by simp [Value.ownBlock,hgp]) _
  ·rw [upd_other _ _ _ _ q,upd_other _ _ _ _ q]
   exact ownsRow_setCell_other (hoth i hi q) (a:=⟨pb,j,none⟩) (h.d i hi) _
 ·intro i hi
  by_cases q:i=j
  ·subst q; rw [upd_same]; simp [Value.ownBlock,hgp]
  ·rw [upd_other _ _ _ _ q]; exact h.d i hi
 ·have new:∀ i,i < 3->i ≠ j->(v i).ownBlock ≠ some g6:=by
   intro i hi hij q2
   rcases hat with q3 | q3
   ·exact h.dd i j hi hj hij g6 q2 q3
   ·have:=((h.o i hi).lt g6 q2).2; omega
  intro i i2 hi hi2 hne g q
  by_cases q1:i=j
  ·subst q1
   rw [upd_same] at q
   simp only [Value.ownBlock,Option.some.injEq] at q
   subst q
   rw [upd_other _ _ _ _ (fun z=>hne z.symm)]
   exact new i2 hi2 (fun z=>hne z.symm)
  ·rw [upd_other _ _ _ _ q1] at q
   by_cases q2:i2=j
   ·subst q2
    rw [upd_same]
    simp only [Value.ownBlock]
    intro q3
    simp only [Option.some.injEq] at q3
    subst q3
    exact new i hi q1 q
   ·rw [upd_other _ _ _ _ q2]; exact h.dd i i2 hi hi2 hne g q
theorem flat3_len (l:List (Int × Int × Int)):(flat3 l).length=l.length * 3:=by
 induction l with
 | nil=>rfl
 | cons t r ih=>have e:flat3 (t :: r)=.int .i64 t.1 :: .int .i64 t.2.1 :: .int .i64 t.2.2 :: flat3 r:=rfl; rw [e]; simp only [List.length_cons,ih]; omega
theorem Tk.pop {w:World} {B pb:Nat} {v:Nat->Value} {L:Nat->List (Int × Int × Int)} (h:Tk w B pb v L) (j:Nat) (hj:j < 3) {l:List (Int × Int × Int)} {b:Int × Int × Int} (hl:L j=l ++ [b]) {g cap:Nat} (hv:v j=.slice (some ⟨g,0,none⟩) (l.length + 1) cap) :
  Tk (w.setCell ⟨pb,j,none⟩ (.slice (some ⟨g,0,none⟩) l.length cap)) B pb (upd v j (.slice (some ⟨g,0,none⟩) l.length cap)) (upd L j l):=by
 have hgp:g ≠ pb:=by
  intro q; subst q; exact h.d j hj (by rw [hv]; rfl)
 have hob:∀ u,(Value.slice (some ⟨g,0,none⟩) l.length cap).ownBlock=some u ↔ (v j).ownBlock=some u:=by intro u; rw [hv]; simp [Value.ownBlock]
 have h3:=flat3_len l
 have hrow:w.ownsRow B (tyR j) 3 (.slice (some ⟨g,0,none⟩) l.length cap) l.length (flat3 l):=by
  have q:=h.o j hj
  rw [hl,hv,flat3_append] at q
  have e:(l ++ [b]).length=l.length + 1:=by simp
  rw [e] at q
  exact ownsRow_pop h3 q
 refine ⟨?_,?_,?_,h.hB,?_,?_⟩
 ·intro i hi
  by_cases q:i=j
  ·subst q; rw [upd_same]; exact World.cell?_setCell_same _ _ _ (by rw [h.c i hi])
  ·rw [upd_other _ _ _ _ q]; exact setO q (h.c i hi)
 ·intro i hi
  simpa using h.f i hi
 ·intro i hi
  by_cases q:i=j
  ·subst q
   rw [upd_same,upd_same]
   exact ownsRow_setCell_other hrow (by simp [Value.ownBlock,hgp]) _
  ·rw [upd_other _ _ _ _ q,upd_other _ _ _ _ q]
   exact ownsRow_setCell_other (h.o i hi) (a:=⟨pb,j,none⟩) (h.d i hi) _
 ·intro i hi
  by_cases q:i=j
  ·subst q; rw [upd_same]; simp [Value.ownBlock,hgp]
  ·rw [upd_other _ _ _ _ q]; exact h.d i hi
 ·intro i i2 hi hi2 hne u q
  by_cases q1:i=j
  ·subst q1
   rw [upd_same,hob] at q
   rw [upd_other _ _ _ _ (fun z=>hne z.symm)]
   exact h.dd i i2 hi hi2 hne u q
  ·rw [upd_other _ _ _ _ q1] at q
   by_cases q2:i2=j
   ·subst q2
    rw [upd_same]
    intro q3
    rw [hob] at q3
    exact h.dd i i2 hi hi2 hne u q q3
   ·rw [upd_other _ _ _ _ q2]; exact h.dd i i2 hi hi2 hne u q
def rows3 (A E G:List (Int × Int × Int)):Nat->List (Int × Int × Int):=fun j=>if j=0 then A else if j=1 then E else G
theorem grown_drew {w w':World} {r:Option Nat} (h:w.drew.grownBy w' r):w.grownBy w' r:=⟨h.os,h.tape,h.output,h.size,h.block⟩
theorem Tk.push0 {w w6:World} {B pb:Nat} {v:Nat->Value} {A E G:List (Int × Int × Int)} {o:Obj} {g6 k6:Nat} {x y z:Int} (h:Tk w B pb v (rows3 A E G))
  (hO:w6.ownsRow B 108 3 (.slice (some ⟨g6,0,none⟩) (A.length + 1) k6) (A.length + 1) (flat3 A ++ [.int .i64 x,.int .i64 y,.int .i64 z])) (hg:(w.alloc o).grownBy w6 (v 0).ownBlock) (hat:(v 0).ownBlock=some g6\/g6=w.heap.size + 1) :
  (w6.cell? ⟨pb,0,none⟩=some (v 0)/\w6.frozen? ⟨pb,0,none⟩=false)/\(∃ v2,Tk (w6.setCell ⟨pb,0,none⟩ (.slice (some ⟨g6,0,none⟩) (A.length + 1) k6)) B pb v2 (rows3 (A ++ [(x,y,z)]) E G) /\
   Fr w (w6.setCell ⟨pb,0,none⟩ (.slice (some ⟨g6,0,none⟩) (A.length + 1) k6)) pb v v2):=by
 obtain ⟨h1,h2,h3⟩:=h.push 0 (by omega) hO hg hat
 exact ⟨h1,_,h2.like (L':=rows3 (A ++ [(x,y,z)]) E G) (fun j hj=>by rcases (show j=0\/j=1\/j=2 by omega) with rfl | rfl | rfl <;> rfl),h3⟩
theorem Tk.push1 {w w6:World} {B pb:Nat} {v:Nat->Value} {A E G:List (Int × Int × Int)} {o:Obj} {g6 k6:Nat} {x y z:Int} (h:Tk w B pb v (rows3 A E G))
  (hO:w6.ownsRow B 62 3 (.slice (some ⟨g6,0,none⟩) (E.length + 1) k6) (E.length + 1) (flat3 E ++ [.int .i64 x,.int .i64 y,.int .i64 z])) (hg:(w.alloc o).grownBy w6 (v 1).ownBlock) (hat:(v 1).ownBlock=some g6\/g6=w.heap.size + 1) :
  (w6.cell? ⟨pb,1,none⟩=some (v 1)/\w6.frozen? ⟨pb,1,none⟩=false)/\(∃ v2,Tk (w6.setCell ⟨pb,1,none⟩ (.slice (some ⟨g6,0,none⟩) (E.length + 1) k6)) B pb v2 (rows3 A (E ++ [(x,y,z)]) G) /\
   Fr w (w6.setCell ⟨pb,1,none⟩ (.slice (some ⟨g6,0,none⟩) (E.length + 1) k6)) pb v v2):=by
 obtain ⟨h1,h2,h3⟩:=h.push 1 (by omega) hO hg hat
 exact ⟨h1,_,h2.like (L':=rows3 A (E ++ [(x,y,z)]) G) (fun j hj=>by rcases (show j=0\/j=1\/j=2 by omega) with rfl | rfl | rfl <;> rfl),h3⟩
theorem Tk.push2 {w w6:World} {B pb:Nat} {v:Nat->Value} {A E G:List (Int × Int × Int)} {o:Obj} {g6 k6:Nat} {x y z:Int} (h:Tk w B pb v (rows3 A E G))
  (hO:w6.ownsRow B 161 3 (.slice (some ⟨g6,0,none⟩) (G.length + 1) k6) (G.length + 1) (flat3 G ++ [.int .i64 x,.int .i64 y,.int .i64 z])) (hg:(w.alloc o).grownBy w6 (v 2).ownBlock) (hat:(v 2).ownBlock=some g6\/g6=w.heap.size + 1) :
  (w6.cell? ⟨pb,2,none⟩=some (v 2)/\w6.frozen? ⟨pb,2,none⟩=false)/\(∃ v2,Tk (w6.setCell ⟨pb,2,none⟩ (.slice (some ⟨g6,0,none⟩) (G.length + 1) k6)) B pb v2 (rows3 A E (G ++ [(x,y,z)])) /\
   Fr w (w6.setCell ⟨pb,2,none⟩ (.slice (some ⟨g6,0,none⟩) (G.length + 1) k6)) pb v v2):=by
 obtain ⟨h1,h2,h3⟩:=h.push 2 (by omega) hO hg hat
 exact ⟨h1,_,h2.like (L':=rows3 A E (G ++ [(x,y,z)])) (fun j hj=>by rcases (show j=0\/j=1\/j=2 by omega) with rfl | rfl | rfl <;> rfl),h3⟩
theorem Tk.pop2 {w:World} {B pb:Nat} {v:Nat->Value} {A E l:List (Int × Int × Int)} {b:Int × Int × Int} (h:Tk w B pb v (rows3 A E (l ++ [b]))) :
  ∃ g cap,v 2=.slice (some ⟨g,0,none⟩) (l.length + 1) cap/\l.length + 1<=cap/\cap<=maxLen/\g < w.heap.size/\g ≠ pb /\
   (w.cell? ⟨g,l.length * 3,none⟩=some (.int .i64 b.1)/\w.cell? ⟨g,l.length * 3 + 1,none⟩=some (.int .i64 b.2.1)/\w.cell? ⟨g,l.length * 3 + 2,none⟩=some (.int .i64 b.2.2)) /\
   (∀ w',Below w.heap.size w w'->∃ v2,Tk (w'.setCell ⟨pb,2,none⟩ (.slice (some ⟨g,0,none⟩) l.length cap)) B pb v2 (rows3 A E l)/\Fr w (w'.setCell ⟨pb,2,none⟩ (.slice (some ⟨g,0,none⟩) l.length cap)) pb v v2):=by
 have o2:w.ownsRow B 161 3 (v 2) (l.length + 1) (flat3 (l ++ [b])):=by
  have q:w.ownsRow B 161 3 (v 2) (l ++ [b]).length (flat3 (l ++ [b])):=h.o 2 (by omega)
  have e:(l ++ [b]).length=l.length + 1:=by simp
  rw [e] at q
  exact q
 have hc:∃ g cap,v 2=.slice (some ⟨g,0,none⟩) (l.length + 1) cap/\l.length + 1<=cap/\cap<=maxLen/\g < w.heap.size:=by
  rcases o2.2 with ⟨_,h0⟩ | ⟨g,cap,cur,e,_,hh,h3,h4,_⟩
  ·omega
  ·exact ⟨g,cap,e,h3,h4,(Array.getElem?_eq_some_iff.1 hh).1⟩
 obtain ⟨g,cap,hv,h3,h4,h5⟩:=hc
 refine ⟨g,cap,hv,h3,h4,h5,?_,?_,?_⟩
 ·intro q; subst q; exact h.d 2 (by omega) (by rw [hv]; rfl)
 ·have q:w.ownsRow B 161 3 (v 2) (l ++ [b]).length (flat3 (l ++ [b])):=h.o 2 (by omega)
  obtain ⟨a,c,e,hR⟩:=row3_at q
  rcases hR with z | ⟨b',off,ea,_,hcc⟩
  ·simp at z
  ·have z:=hcc l.length (by simp)
   rw [hv,ea] at e
   simp only [Value.slice.injEq,Option.some.injEq,Addr.mk.injEq,and_true] at e
   obtain ⟨⟨e1,e2⟩,_⟩:=e
   subst e1
   subst e2
   simp only [Nat.zero_add] at z
   have eg:(l ++ [b]).getD l.length (0,0,0)=b:=by simp
   rw [eg] at z
   exact z
 ·intro w' hb
  refine ⟨_,((h.below hb).pop 2 (by omega) (l:=l) (b:=b) rfl hv).like (L':=rows3 A E l) (fun j hj=>by rcases (show j=0\/j=1\/j=2 by omega) with rfl | rfl | rfl <;> rfl),?_⟩
  refine ⟨hb.os,hb.tape,hb.output,by rw [World.size_setCell]; exact hb.size,fun b2 hb2 hf=>⟨?_,hf.1,?_⟩⟩
  ·rw [Below.heap_setCell w' ⟨pb,2,none⟩ _ b2 hf.1]
   exact hb.block b2 hb2
  ·intro i hi
   by_cases q:i=2
   ·subst q
    rw [upd_same]
    have:=hf.2 2 (by omega)
    rw [hv] at this
    exact this
   ·rw [upd_other _ _ _ _ q]; exact hf.2 i hi
end Sp
namespace Sp
open Go.RowKit
def deedsA:Array Value:=#[.func (.func 120) #[] #[],.func (.func 121) #[] #[],.func (.func 122) #[] #[],.func (.func 122) #[] #[],.func (.func 123) #[] #[],.func (.func 123) #[] #[],.func (.func 124) #[] #[],.func (.func 125) #[] #[]]
def deedF (k:Int):Nat:=if k=0 then 120 else if k=1 then 121 else if k=2\/k=3 then 122 else if k=4\/k=5 then 123 else if k=6 then 124 else 125
end Sp
namespace Sp
open Go.RowKit
attribute [local go_sem ↓] Go.wp_at_zero Go.wp_at_succ
def one3 (x y:Int) (wt:Nat):List (Int × Int × Int):=if wt=0 then [] else [(x,y,(wt:Int))]
theorem one3_len (x y:Int) (wt:Nat):(one3 x y wt).length<=1/\(one3 x y wt).length<=wt:=by
 unfold one3
 by_cases h:wt=0
 ·simp [h]
 ·simp [h]; omega
end Sp
namespace Sp
open Go.RowKit
attribute [local go_sem ↓] Go.wp_at_zero Go.wp_at_succ
end Sp
namespace Sp
open Go.RowKit
attribute [local go_sem ↓] Go.wp_at_zero Go.wp_at_succ
theorem kd_in {wd:Int} {cs:List (Int × Int)} (h:okG wd cs=true) {x:Int} (hx:0<=x/\x < (cs.length:Int)):0<=kd cs x/\kd cs x<=7:=by
 simp only [okG,Bool.and_eq_true,List.all_eq_true] at h
 obtain ⟨X,rfl⟩:=Int.eq_ofNat_of_zero_le hx.1
 have hX:X < cs.length:=by omega
 have q:=h.2 (cs[X]) (List.getElem_mem hX)
 have e:kd cs (X:Int)=cs[X].1:=by simp [kd,List.getElem?_eq_getElem hX]
 rw [e]
 unfold okC at q
 split at q
 ·omega
 ·simp at q; omega
theorem tapp_end (A E:List (Int × Int × Int)) (k x:Int) (n:Nat):tapp (A,E) (endT k x n)=(A,E ++ one3 k x n):=by
 show (A ++ [],E ++ one3 k x n)=_
 rw [List.append_nil]
def StepTo (wd:Int) (cs:List (Int × Int)) (A E l:List (Int × Int × Int)) (b:Bm) (A' E' G':List (Int × Int × Int)):Prop :=
 tapp (A',E') (pend wd cs G')=tapp (A,E) (pend wd cs (l ++ [b]))/\(∀ c ∈ G',okB wd cs c)/\((A'=A/\G'=l)\/(A'.length=A.length + 1/\G'.length<=l.length + 2))
theorem step_end {wd:Int} {cs:List (Int × Int)} {A E l:List (Int × Int × Int)} {x e:Int} {h:Nat} (h0:h ≠ 0) (hok:∀ c ∈ l ++ [(x,e,(h:Int))],okB wd cs c) (hr:(rayN wd cs x e).2.2=false) :
  StepTo wd cs A E l (x,e,(h:Int)) A (E ++ one3 0 (outOf wd cs x e) h) l:=by
 refine ⟨?_,fun c hc=>hok c (by simp [hc]),Or.inl ⟨rfl,rfl⟩⟩
 rw [pend_snoc]
 have q:lvB wd cs (x,e,(h:Int))=endT 0 (outOf wd cs x e) h:=by
  simp only [lvB,lvT,Int.toNat_natCast]
  rw [if_neg h0,if_neg (by simp [hr])]
 rw [q,<- tapp_assoc,tapp_end]
theorem step_visit {wd:Int} {cs:List (Int × Int)} {A E l:List (Int × Int × Int)} {x e:Int} {h:Nat} (hokG:okG wd cs=true) (h0:h ≠ 0) (hok:∀ c ∈ l ++ [(x,e,(h:Int))],okB wd cs c) {x2:Int} (hr:(rayN wd cs x e).2.2=true) (hx2:(rayN wd cs x e).1=x2) {how:Int} {en on tu:Nat} (hf:fateN (kd cs x2) h=(how,en,on,tu)) :
  okS cs (x2,e)/\StepTo wd cs A E l (x,e,(h:Int)) (A ++ [(x2,e,(h:Int))]) (E ++ one3 how x2 en) (l ++ one3 x2 (turnD (kd cs x2) e) tu ++ one3 x2 e on):=by
 have hb:=hok (x,e,(h:Int)) (by simp)
 obtain ⟨r1,r2,_⟩:=rayN_back hr
 rw [hx2] at r1
 have hE:enough wd cs 707 x2 e h:=by
  rcases hb.2.2 with q | q | q
  ·simp only [Int.toNat_natCast] at q; exact absurd q h0
  ·simp only at q; rw [hr] at q; cases q
  ·simp only [Int.toNat_natCast] at q; rw [hx2] at q; exact q
 have hw:=hb.2.1
 simp only at hw
 obtain ⟨f1,f2⟩:=visit_fact (T:=(A,E)) (st:=l) ⟨r1,r2⟩ (kd_in hokG r1) h0 (by omega) hE hf
 refine ⟨⟨r1,r2⟩,?_,?_,Or.inr ⟨by simp,?_⟩⟩
 ·rw [pend_snoc]
  have q:lvB wd cs (x,e,(h:Int))=comeT wd cs 707 x2 e h:=by
   simp only [lvB,lvT,Int.toNat_natCast]
   rw [if_neg h0,if_pos hr,hx2]
  rw [q]
  rw [tapp_end] at f1
  exact f1
 ·intro c hc
  rw [List.append_assoc] at hc
  rcases List.mem_append.1 hc with z | z
  ·exact hok c (by simp [z])
  ·exact f2 c z
 ·have q1:=(one3_len x2 (turnD (kd cs x2) e) tu).1
  have q2:=(one3_len x2 e on).1
  simp only [List.length_append]
  omega
end Sp
namespace Sp
open Go.RowKit
attribute [local go_sem ↓] Go.wp_at_zero Go.wp_at_succ
theorem inS_of {wd:Int} {cs:List (Int × Int)} {k x d:Int} (h:inRay wd cs k=(x,d,true)):inS wd cs k=true:=by
 unfold inRay at h
 split at h
 ·next z=>exact decide_eq_true z.2
 ·simp at h
theorem inS_ray' {wd:Int} {cs:List (Int × Int)} {k:Int} (h:inS wd cs k=true):∃ x d,inRay wd cs k=(x,d,true):=by
 have hok:=inS_ok h
 have hk:0<=k/\k < manyG wd cs:=by simpa [inS] using h
 obtain ⟨W,H,S⟩:=siz_of hok
 rw [S.em] at hk
 obtain ⟨K,rfl⟩:=Int.eq_ofNat_of_zero_le hk.1
 exact ⟨_,_,inRay_at S K (by omega)⟩
theorem pend_nil (wd:Int) (cs:List (Int × Int)) (A E:List (Int × Int × Int)):tapp (A,E) (pend wd cs [])=(A,E):=by simp [pend,tapp]
theorem pend_le {wd:Int} {cs:List (Int × Int)} {A E G:List (Int × Int × Int)} {L:Tr} (h:tapp (A,E) (pend wd cs G)=L):A.length<=L.1.length/\E.length<=L.2.length:=by
 rw [<- h]; simp [tapp]
theorem tk_start (u:World) (B g:Nat) (hB:B<=g) (t:TypeId) (hg:u.heap[g]?=some (.cells #[.slice none 0 0,.slice none 0 0,.slice none 0 0] t (0,0))):Tk u B g (fun _=>.slice none 0 0) (rows3 [] [] []):=by
 refine ⟨?_,?_,?_,hB,?_,?_⟩
 ·intro j hj
  rw [cell_of_row _ _ _ _ _ _ hg]
  rcases (show j=0\/j=1\/j=2 by omega) with rfl | rfl | rfl <;> rfl
 ·intro j hj
  exact frozen_of_row _ _ _ _ _ hg
 ·intro j hj
  rcases (show j=0\/j=1\/j=2 by omega) with rfl | rfl | rfl <;> exact World.ownsRow_nil _ _ _ _
 ·intro j hj q
  simp [Value.ownBlock] at q
 ·intro i j hi hj hne g q
  simp [Value.ownBlock] at q
end Sp
namespace Sp
open Go.RowKit
attribute [local go_sem ↓] Go.wp_at_zero Go.wp_at_succ
end Sp
namespace Sp
open Go.RowKit
attribute [local go_sem ↓] Go.wp_at_zero Go.wp_at_succ
theorem ends_known {wd:Int} {cs:List (Int × Int)} {k:Int} {L:Tr} (hL:trailT wd cs k=L):(∀ u ∈ L.2,EndOk wd cs u)/\(∀ u ∈ L.2,u.2.2<=64)/\sumW L.2<=64/\L.2.length<=64/\(L.2 ≠ []->okG wd cs=true):=by
 rcases hs:inS wd cs k with _ | _
 ·have hv:L=([],[]):=by rw [<- hL]; unfold trailT; rw [if_neg (by simp [hs])]
  subst hv
  exact ⟨by simp,by simp,by simp [sumW],by simp,fun q=>absurd rfl q⟩
 ·have hT:=trail_ok hs
  rw [hL] at hT
  have hpos:∀ u ∈ L.2,1<=u.2.2:=fun u hu=>(hT.ends u hu).1
  have key:∀ l:List (Int × Int × Int),(∀ u ∈ l,1<=u.2.2)->(l.length:Int)<=sumW l:=by
   intro l
   induction l with
   | nil=>intro _; simp [sumW]
   | cons t r ih =>
    intro q
    have q1:=q t (by simp)
    have q2:=ih (fun u hu=>q u (by simp [hu]))
    simp only [sumW,List.length_cons]
    omega
  have hsum:=hT.sum
  have hk:=key L.2 hpos
  refine ⟨hT.ends,?_,by omega,by omega,fun _=>inS_ok hs⟩
  intro u hu
  obtain ⟨l1,l2,e⟩:=List.append_of_mem hu
  have q1:=sumW_append l1 (u :: l2)
  rw [<- e,hsum] at q1
  simp only [sumW] at q1
  have q2:=sumW_pos l1 (fun z hz=>hpos z (by rw [e]; simp [hz]))
  have q3:=sumW_pos l2 (fun z hz=>hpos z (by rw [e]; simp [hz]))
  omega
end Sp
namespace Sp
open Go.RowKit
attribute [local go_sem ↓] Go.wp_at_zero Go.wp_at_succ
end Sp
end Go.Proofs.YtdhopelplokehaaGreat
