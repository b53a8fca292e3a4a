/- Of the proof: PFw, PFx -/
import Derived.Test.YtfbbcooklhmeaaaGreatLBl
import Derived.Test.YtfbbcooklhmeaaaGreatLBm
set_option linter.unusedVariables false
namespace Go.Proofs.YtfbbcooklhmeaaaGreat
variable {arrF arrL:Array Value} {r:Ending} {wd:Int} {cs:List (Int × Int)} {B:Nat} {l:Nat->Int} {n:Nat->Nat} {f:Nat->Nat->Int} {xs:Nat->Value} {v:Value} {w w':World}
namespace Sp
open Go.RowKit
theorem zib {xs:List Int} (h:zdu w B 3 v xs):zjO w B v xs:=by
 refine ⟨by simp [zeE],?_⟩
 rcases h with ⟨h1,h2⟩ | ⟨g,cap,h1,h2,h3,h4,h5,h6⟩
 ·exact .inl ⟨h1,by rw [h2]; rfl⟩
 ·refine .inr ⟨g,cap,zfY xs cap,h1,h2,h6,h4,h5,by rw [zfX xs cap h4,Nat.mul_one],?_⟩
  rw [Nat.mul_one]
  have e:(zfY xs cap).toList=zeE xs ++ List.replicate (cap - xs.length) (.int .i64 0):=by simp [zfY,zdQ,zeE]
  rw [e,List.take_append_of_le_length (by simp [zeE])]
  rw [List.take_of_length_le (by simp [zeE])]
theorem zmY {xs:List Int} (h:zjO w B v xs):∃ a c,v=.slice a xs.length c/\RI w a (xs.length * 1) (fun i=>xs.getD i 0)/\∀ x,a=some x->v.ownBlock=some x.block:=by
 obtain ⟨h1,h2⟩:=h
 rcases h2 with ⟨q1,q2⟩ | ⟨g,cap,cur,q1,q2,q3,q4,q5,q6,q7⟩
 ·exact ⟨none,0,by rw [q1,q2],.inl (by omega),fun x e=>by cases e⟩
 ·refine ⟨_,cap,q1,.inr ⟨g,rfl,(gei q3).1,fun j hj=>⟨?_,frozen_of_row _ _ j _ _ q3⟩⟩,fun x e=>by rw [q1]; cases e; rfl⟩
  have hj':j < xs.length:=by omega
  have e:(cur.toList.take (xs.length * 1))[j]?=(zeE xs)[j]?:=by rw [q7]
  rw [List.getElem?_take_of_lt hj,Array.getElem?_toList] at e
  rw [cell_of_row _ _ j _ _ _ q3,e]
  simp [zeE,hj']
theorem ScA.toS {w0:World} {M gc bl bf k:Nat} (h:ScA w0 w wd cs M gc bl bf k arrL arrF xs):ScS w0 w wd cs M gc cs.length bl bf k arrL arrF xs:=by
 have hlt:=h.lt
 exact ⟨h.below,h.grid,h.lights,h.feet,h.sizeL,h.sizeF,h.atL,h.atF,by omega,fun j hj=>zib (h.row j hj),fun j hj b hb=>by have:=h.apart j hj b hb; omega,h.once⟩
def zqu:Value->Option Addr
 | .slice a _ _=>a
 | _=>none
def zqw (w:World) (wd:Int) (cs:List (Int × Int)) (M:Nat) (l:Nat->Int) (n:Nat->Nat) (f:Nat->Nat->Int) (ok:Bool) (r:Ending) (w':World):Prop :=
 ∃ ga la fa gc lc fc ad cp,r=.returned (.tuple #[.agg #[.int .i64 wd,.slice ga cs.length gc,.slice la M lc,.slice fa M fc],.bool ok])/\Own w' w.heap.size (.slice ga cs.length gc) cs/\RI w' la (M * 1) l/\zba w' w.heap.size w'.heap.size fa M ad n cp f/\zgc w'.heap.size ga la fa M ad/\(∀ e,za9 ga e\/za9 la e\/za9 fa e\/zck M ad e->w.heap.size<=e)/\Below w.heap.size w w'
theorem zaP {b e:Nat} (h:za9 (some ⟨b,0,none⟩) e):e=b:=by
 obtain ⟨x,h1,h2⟩:=h
 cases h1
 exact h2
theorem zpp (hr:r=.returned (.tuple #[.agg #[.int .i64 0,.slice none 0 0,.slice none 0 0,.slice none 0 0],.bool false])) (hb:Below w.heap.size w w'):zqw w 0 [] 0 l n f false r w':=by
 have h0:∀ e,¬ za9 none e:=fun e ⟨x,h,_⟩=>by cases h
 have h1:∀ e,¬ zck 0 (fun _=>none) e:=fun e ⟨k,x,h,_⟩=>by omega
 exact ⟨none,none,none,0,0,0,fun _=>none,fun _=>0,hr,⟨rfl,.inl ⟨rfl,rfl⟩⟩,.inl rfl,.inl rfl,⟨fun e h=>absurd h (h0 e),fun e h=>absurd h (h0 e),fun e h=>absurd h (h0 e),fun e h=>absurd h (h0 e),fun e h=>absurd h (h0 e),fun e h=>by rcases h with h | h | h; exact absurd h (h0 e); exact absurd h (h0 e); exact absurd h (h1 e)⟩,fun e h=>by rcases h with h | h | h | h; exact absurd h (h0 e); exact absurd h (h0 e); exact absurd h (h0 e); exact absurd h (h1 e),hb⟩
theorem zlN {M gc c bl bf:Nat} (h:ScS w w' wd cs M gc c bl bf M arrL arrF xs) (hr:r=.returned (.tuple #[.agg #[.int .i64 wd,.slice (some ⟨gc,0,none⟩) cs.length c,.slice (some ⟨bl,0,none⟩) M M,.slice (some ⟨bf,0,none⟩) M M],.bool true])) :
  zqw w wd cs M (fun j=>zbc wd cs (j:Int)) (fun j=>(za0 wd cs (j:Int)).length) (fun j i=>(za0 wd cs (j:Int)).getD i 0) true r w':=by
 have hx:∀ j,j < M->xs j=.slice (zqu (xs j)) (za0 wd cs (j:Int)).length (zbI (xs j))/\RI w' (zqu (xs j)) ((za0 wd cs (j:Int)).length * 1) (fun i=>(za0 wd cs (j:Int)).getD i 0)/\∀ x,zqu (xs j)=some x->(xs j).ownBlock=some x.block:=fun j hj=>by
  obtain ⟨a,c,h1,h2,h3⟩:=zmY (h.row j hj)
  rw [h1] at h3 ⊢
  exact ⟨rfl,h2,h3⟩
 have hblk:∀ j x,j < M->zqu (xs j)=some x->(w.heap.size<=x.block/\x.block < w'.heap.size)/\(x.block ≠ gc/\x.block ≠ bl/\x.block ≠ bf):=fun j x hj q=>⟨World.ownsRow.lt (h.row j hj) x.block ((hx j hj).2.2 x q),h.apart j hj x.block ((hx j hj).2.2 x q)⟩
 have hrow:∀ e,zck M (fun j=>zqu (xs j)) e->(w.heap.size<=e/\e < w'.heap.size)/\(e ≠ gc/\e ≠ bl/\e ≠ bf):=fun e ⟨k,x,q1,q2,q3⟩=>by rw [q3]; exact hblk k x q1 q2
 have hlt:=h.lt
 have hgl:=(World.ownsRow.lt h.grid gc rfl).2
 have hbl:=(gei h.lights).1
 have hbf:=(gei h.feet).1
 refine ⟨some ⟨gc,0,none⟩,some ⟨bl,0,none⟩,some ⟨bf,0,none⟩,c,M,M,fun j=>zqu (xs j),fun j=>zbI (xs j),hr,h.grid,.inr ⟨bl,rfl,hbl,fun j hj=>⟨?_,frozen_of_row _ _ j _ _ h.lights⟩⟩,.inr ⟨bf,rfl,⟨hlt.1.2.2,hbf⟩,fun k hk=>?_,fun k hk=>(hx k hk).2.1,fun k x hk q=>⟨(hblk k x hk q).1,(hblk k x hk q).2.2.2⟩,fun k k' x x' hk hk' q q' e=>?_,Nat.le_refl _⟩,⟨?_,?_,?_,?_,?_,?_⟩,?_,h.below⟩
 ·rw [cell_of_row _ _ j _ _ _ h.lights,h.atL j (by omega)]
 ·rw [cell_of_row _ _ k _ _ _ h.feet,h.atF k hk]
  exact congrArg some (hx k hk).1
 ·have q1:=(hx k hk).2.2 x q
  have q2:=(hx k' hk').2.2 x' q'
  rw [<- e] at q2
  exact h.inj k k' x.block hk hk' q1 q2
 ·intro e q q'
  have:=zaP q; have:=zaP q'; omega
 ·intro e q q'
  have:=zaP q; have:=zaP q'; omega
 ·intro e q q'
  have:=zaP q; have:=(hrow e q').2.1; omega
 ·intro e q q'
  have:=zaP q; have:=zaP q'; omega
 ·intro e q q'
  have:=zaP q; have:=(hrow e q').2.2.1; omega
 ·rintro e (q | q | q)
  ·have:=zaP q; omega
  ·have:=zaP q; omega
  ·exact (hrow e q).1.2
 ·rintro e (q | q | q | q)
  ·have:=zaP q; omega
  ·have:=zaP q; omega
  ·have:=zaP q; omega
  ·exact (hrow e q).1.1
theorem zqe (wd:Int) (cs:List (Int × Int)) (hm:cs.length<=1048576):∃ (wd':Int) (cs':List (Int × Int)) (M:Nat) (l:Nat->Int) (n:Nat->Nat) (f:Nat->Nat->Int) (ok:Bool),cs'.length<=25/\M<=20/\(∀ k,k < M->n k<=1000)/\(ok=false->wd'=0/\cs'=[]/\M=0) /\
  (∀ (a:Option Addr) (cap:Nat) (w:World),zai w a cs->Calls SqP.prog 16 #[.agg #[.int .i64 wd,.slice a cs.length cap]] w (zqw w wd' cs' M l n f ok)) /\
  (∀ (a:Option Addr) (cap:Nat) (w:World),zai w a cs->Calls SqP.prog 14 #[.agg #[.int .i64 wd,.slice a cs.length cap]] w (zqw w wd' cs' M l n f ok)):=by
 rcases hk:okG wd cs with _ | _
 ·exact ⟨0,[],0,fun _=>0,fun _=>0,fun _ _=>0,false,by simp,by omega,(fun k h=>by omega),(fun _=>⟨rfl,rfl,rfl⟩),(fun a cap w h=>(zkl wd a cap cs w h (by omega) hk).mono fun e w' q=>zpp q.1 q.2),(fun a cap w h=>(zfz wd a cap cs w h hm hk).mono fun e w' q=>zpp q.1 q.2)⟩
 ·obtain ⟨W,H,S⟩:=zew hk
  have hn:cs.length<=25:=by rw [S.el]; exact Nat.le_trans (Nat.mul_le_mul S.hW.2 S.hH.2) (by omega)
  have hp:0 < cs.length:=by rw [S.el]; exact Nat.mul_pos (by have:=S.hW; omega) (by have:=S.hH; omega)
  have hM20:2 * (W + H)<=20:=by have:=S.hW; have:=S.hH; omega
  exact ⟨wd,cs,2 * (W + H),_,_,_,true,hn,hM20,(fun k _=>Nat.le_trans (zi1 _ _) (by omega)),(fun h=>by cases h),(fun a cap w h=>(zm3 wd a cap cs w h hn hp hk (2 * (W + H)) (by rw [S.em]; omega) hM20).mono fun e w' ⟨gc,bl,bf,arrL,arrF,xs,q1,q2⟩=>zlN q2.toS q1),(fun a cap w h=>(zeH S a cap w h).mono fun e w' ⟨gc,c,bl,bf,arrL,arrF,xs,q1,q2⟩=>zlN q2 q1)⟩
end Sp
end Go.Proofs.YtfbbcooklhmeaaaGreat
