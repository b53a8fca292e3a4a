/- Of the proof: PJd -/
import Derived.Test.YtdhopelplokehaaGreatDAn
set_option linter.unusedVariables false
namespace Go.Proofs.YtdhopelplokehaaGreat
namespace Sp
open Go.RowKit
end Sp
namespace Sp
open Go.RowKit
end Sp
namespace Sp
open Go.RowKit
def badN (wd:Int) (cs:List (Int × Int)) (x d:Int):Prop:=okG wd cs=false\/(okG wd cs=true/\inP x cs.length=false)\/(okG wd cs=true/\inP x cs.length=true/\inB d 0 3=false)
theorem rayN_bad {wd:Int} {cs:List (Int × Int)} {x d:Int} (h:badN wd cs x d):rayN wd cs x d=(0,0,false):=by
 unfold rayN
 rw [if_neg]
 rintro ⟨h1,h2,h3,_⟩
 rcases h with k1 | ⟨k1,k2⟩ | ⟨k1,k2,k3⟩
 ·rw [h1] at k1; cases k1
 ·simp [inP] at k2; omega
 ·simp [inB] at k3; omega
structure Ray (wd:Int) (cs:List (Int × Int)) (x d:Int) (W H:Nat) (r c r2 c2 m:Int) (b:Bool):Prop where
 ew:wd=(W:Int)
 ok:okG wd cs=true
 hW:1<=W/\W<=5
 hH:cs.length / W=H
 hn:cs.length<=25
 hH2:1<=H/\H<=5
 el:cs.length=W * H
 hx:0<=x/\x < cs.length
 hd:0<=d/\d<=3
 eq1:x / (W:Int)=r
 eq2:x % (W:Int)=c
 hr:0<=r/\r < H
 hc:0<=c/\c < W
 er:r + dRow d=r2
 ec:c + dCol d=c2
 hr2:-1<=r2/\r2<=25
 hc2:-1<=c2/\c2<=5
 em:r2 * (W:Int)=m
 hm:-5<=m/\m<=125
 hb:inG r2 c2 W H=b
 hv:rayN wd cs x d=if b then (m + c2,d,true) else (0,0,false)
theorem ray_of (wd:Int) (cs:List (Int × Int)) (x d:Int) (hok:okG wd cs=true) (hx:0<=x/\x < cs.length) (hd:0<=d/\d<=3):∃ W H r c r2 c2 m b,Ray wd cs x d W H r c r2 c2 m b:=by
 obtain ⟨W,H,ew,h1,h2,h3,h4,el,hH,hHI,hn⟩:=shapeG hok
 have hW0:(0:Int) < (W:Int):=by omega
 have c0:=Int.emod_nonneg x (show (W:Int) ≠ 0 by omega)
 have c1:=Int.emod_lt_of_pos x hW0
 have r0:0<=x / (W:Int):=Int.ediv_nonneg hx.1 (by omega)
 have r1:x / (W:Int) < (H:Int):=by
  refine Int.ediv_lt_of_lt_mul hW0 ?_
  have:(cs.length:Int)=(W:Int) * (H:Int):=by exact_mod_cast el
  rw [Int.mul_comm]
  omega
 have dr:-1<=dRow d/\dRow d<=1:=by unfold dRow; split <;> (try split) <;> omega
 have dc:-1<=dCol d/\dCol d<=1:=by unfold dCol; split <;> (try split) <;> omega
 refine ⟨W,H,x / (W:Int),x % (W:Int),_,_,_,_,ew,hok,⟨h1,h2⟩,hH,hn,⟨h3,h4⟩,el,hx,hd,rfl,rfl,⟨r0,r1⟩,⟨c0,c1⟩,rfl,rfl,by omega,by omega,rfl,?_,rfl,?_⟩
 ·have m1:(-1:Int) * 5<=(x / (W:Int) + dRow d) * (W:Int):=by
   rcases Int.lt_or_le (x / (W:Int) + dRow d) 0 with k | k
   ·rw [show x / (W:Int) + dRow d=-1 by omega]; omega
   ·exact Int.le_trans (by omega) (Int.mul_nonneg k (by omega))
  have m2:(x / (W:Int) + dRow d) * (W:Int)<=125:=by
   rcases Int.lt_or_le (x / (W:Int) + dRow d) 0 with k | k
   ·rw [show x / (W:Int) + dRow d=-1 by omega]; omega
   ·exact Int.le_trans (Int.mul_le_mul (show x / (W:Int) + dRow d<=25 by omega) (show (W:Int)<=5 by omega) (by omega) (by omega)) (by omega)
  omega
 ·unfold rayN
  subst ew
  rw [hHI]
  by_cases k:inG (x / (W:Int) + dRow d) (x % (W:Int) + dCol d) W H=true
  ·rw [if_pos ⟨hok,hx,hd,k⟩,if_pos k]
  ·rw [if_neg (fun q=>k q.2.2.2),if_neg k]
theorem good_or (wd:Int) (cs:List (Int × Int)) (x d:Int):badN wd cs x d\/(okG wd cs=true/\(0<=x/\x < (cs.length:Int))/\(0<=d/\d<=3)):=by
 by_cases k1:okG wd cs=true
 ·by_cases k2:0<=x/\x < (cs.length:Int)
  ·by_cases k3:0<=d/\d<=3
   ·exact Or.inr ⟨k1,k2,k3⟩
   ·exact Or.inl (Or.inr (Or.inr ⟨k1,decide_eq_true k2,decide_eq_false k3⟩))
  ·exact Or.inl (Or.inr (Or.inl ⟨k1,decide_eq_false k2⟩))
 ·exact Or.inl (Or.inl (by simpa using k1))
end Sp
end Go.Proofs.YtdhopelplokehaaGreat
