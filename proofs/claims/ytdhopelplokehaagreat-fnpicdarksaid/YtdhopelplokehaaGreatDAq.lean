/- Of the proof: PJh -/
import Derived.LoopN
import Derived.Test.YtdhopelplokehaaGreatDAo
import Derived.Test.YtdhopelplokehaaGreatDAp
set_option linter.unusedVariables false
namespace Go.Proofs.YtdhopelplokehaaGreat
namespace Sp
open Go.RowKit
end Sp
namespace Sp
open Go.RowKit
def of0 (W:Nat) (x d:Int):Int:=if 0=d then sa 0 0 1 x W else -1
def of1 (W H:Nat) (x d:Int):Int:=if 1=d then sa (W:Int) ((W:Int) - 1) (W:Int) x H else of0 W x d
def of2 (W H n:Nat) (x d:Int):Int:=if 2=d then sa ((W:Int) + (H:Int)) ((n:Int) - 1) (-1) x W else of1 W H x d
def of3 (W H n:Nat) (x d:Int):Int:=if 3=d then sa ((W:Int) + (H:Int) + (W:Int)) ((n:Int) - 1 - (W:Int) + 1) (-(W:Int)) x H else of2 W H n x d
end Sp
namespace Sp
open Go.RowKit
def in0 (W:Nat) (k:Int):Int × Int × Bool:=if 0<=k/\k < 0 + (W:Int) then (0 + (k - 0) * 1,2,true) else (0,0,false)
def in1 (W H:Nat) (k:Int):Int × Int × Bool:=if (W:Int)<=k/\k < (W:Int) + (H:Int) then ((W:Int) - 1 + (k - (W:Int)) * (W:Int),3,true) else in0 W k
def in2 (W H n:Nat) (k:Int):Int × Int × Bool:=if (W:Int) + (H:Int)<=k/\k < (W:Int) + (H:Int) + (W:Int) then ((n:Int) - 1 + (k - ((W:Int) + (H:Int))) * (-1),0,true) else in1 W H k
def in3 (W H n:Nat) (k:Int):Int × Int × Bool:=if (W:Int) + (H:Int) + (W:Int)<=k/\k < (W:Int) + (H:Int) + (W:Int) + (H:Int) then ((n:Int) - 1 - (W:Int) + 1 + (k - ((W:Int) + (H:Int) + (W:Int))) * (-(W:Int)),1,true) else in2 W H n k
end Sp
namespace Sp
open Go.RowKit
def manyG (wd:Int) (cs:List (Int × Int)):Int:=if okG wd cs=true then 2 * (wd + (cs.length:Int) / wd) else 0
def inRay (wd:Int) (cs:List (Int × Int)) (k:Int):Int × Int × Bool :=
 if okG wd cs=true/\0<=k/\k < manyG wd cs then ((sRay wd ((cs.length:Int) / wd) k).1,(sRay wd ((cs.length:Int) / wd) k).2,true) else (0,0,false)
def outOf (wd:Int) (cs:List (Int × Int)) (x d:Int):Int :=
 if okG wd cs=true/\(0<=x/\x < (cs.length:Int))/\(0<=d/\d<=3) then ofN wd ((cs.length:Int) / wd) x d (manyG wd cs).toNat else -1
theorem manyG_ok {W H:Nat} {cs:List (Int × Int)} (hok:okG (W:Int) cs=true) (hH:(cs.length:Int) / (W:Int)=(H:Int)):manyG (W:Int) cs=2 * ((W:Int) + (H:Int)):=by
 unfold manyG; rw [if_pos hok,hH]
theorem manyG_bad {wd:Int} {cs:List (Int × Int)} (hok:okG wd cs=false):manyG wd cs=0:=by
 unfold manyG; rw [if_neg (by simp [hok])]
theorem inRay_bad {wd:Int} {cs:List (Int × Int)} (hok:okG wd cs=false) (k:Int):inRay wd cs k=(0,0,false):=by
 unfold inRay; rw [if_neg (by simp [hok])]
theorem outOf_bad {wd:Int} {cs:List (Int × Int)} (hok:okG wd cs=false) (x d:Int):outOf wd cs x d=-1:=by
 unfold outOf; rw [if_neg (by simp [hok])]
def zI (n:Nat):Int:=n
set_option maxRecDepth 100000 in
theorem in_fin:∀ W:Fin 5,∀ H:Fin 5,∀ k:Fin 20,k.val < 2 * (W.val + 1 + (H.val + 1)) ->
  in3 (W.val + 1) (H.val + 1) ((W.val + 1) * (H.val + 1)) (zI k.val)=((sRay (zI (W.val + 1)) (zI (H.val + 1)) (zI k.val)).1,(sRay (zI (W.val + 1)) (zI (H.val + 1)) (zI k.val)).2,true):=by decide +kernel
set_option maxRecDepth 100000 in
theorem of_fin:∀ W:Fin 5,∀ H:Fin 5,∀ x:Fin 25,∀ d:Fin 4,x.val < (W.val + 1) * (H.val + 1) ->
  of3 (W.val + 1) (H.val + 1) ((W.val + 1) * (H.val + 1)) (zI x.val) (zI d.val)=ofN (zI (W.val + 1)) (zI (H.val + 1)) (zI x.val) (zI d.val) (2 * (W.val + 1 + (H.val + 1))):=by decide +kernel
theorem side_fin:∀ W:Fin 5,∀ H:Fin 5,∀ j:Fin 5,
  (j.val < W.val + 1->0<=0 + zI j.val * 1/\0 + zI j.val * 1 < zI ((W.val + 1) * (H.val + 1))) /\
  (j.val < H.val + 1->0<=zI (W.val + 1) - 1 + zI j.val * zI (W.val + 1)/\zI (W.val + 1) - 1 + zI j.val * zI (W.val + 1) < zI ((W.val + 1) * (H.val + 1))) /\
  (j.val < W.val + 1->0<=zI ((W.val + 1) * (H.val + 1)) - 1 + zI j.val * (-1)/\zI ((W.val + 1) * (H.val + 1)) - 1 + zI j.val * (-1) < zI ((W.val + 1) * (H.val + 1))) /\
  (j.val < H.val + 1->0<=zI ((W.val + 1) * (H.val + 1)) - 1 - zI (W.val + 1) + 1 + zI j.val * (-zI (W.val + 1))/\zI ((W.val + 1) * (H.val + 1)) - 1 - zI (W.val + 1) + 1 + zI j.val * (-zI (W.val + 1)) < zI ((W.val + 1) * (H.val + 1))):=by decide +kernel
theorem sa_none (f s o x:Int) (m:Nat) (h:∀ j:Nat,j < m->s + (j:Int) * o ≠ x):sa f s o x m=-1:=by
 induction m with
 | zero=>rfl
 | succ m ih=>exact sa_miss f s o x m (ih fun j hj=>h j (by omega)) (h m (by omega))
theorem in3_is (W H:Nat) (hW:1<=W/\W<=5) (hH:1<=H/\H<=5) (k:Int) :
  in3 W H (W * H) k=if 0<=k/\k < 2 * ((W:Int) + (H:Int)) then ((sRay W H k).1,(sRay W H k).2,true) else (0,0,false):=by
 by_cases hk:0<=k/\k < 2 * ((W:Int) + (H:Int))
 ·rw [if_pos hk]
  obtain ⟨K,rfl⟩:=Int.eq_ofNat_of_zero_le hk.1
  have:=in_fin ⟨W - 1,by omega⟩ ⟨H - 1,by omega⟩ ⟨K,by omega⟩
  simp only [show W - 1 + 1=W by omega,show H - 1 + 1=H by omega,zI] at this
  exact this (by omega)
 ·rw [if_neg hk]
  unfold in3 in2 in1 in0
  rw [if_neg (by omega),if_neg (by omega),if_neg (by omega),if_neg (by omega)]
theorem of3_is (W H:Nat) (hW:1<=W/\W<=5) (hH:1<=H/\H<=5) (x d:Int) :
  of3 W H (W * H) x d=if (0<=x/\x < ((W * H:Nat):Int))/\(0<=d/\d<=3) then ofN W H x d (2 * (W + H)) else -1:=by
 have hm:W * H<=25:=Nat.le_trans (Nat.mul_le_mul hW.2 hH.2) (by omega)
 by_cases hd:0<=d/\d<=3
 ·by_cases hx:0<=x/\x < ((W * H:Nat):Int)
  ·rw [if_pos ⟨hx,hd⟩]
   obtain ⟨X,rfl⟩:=Int.eq_ofNat_of_zero_le hx.1
   obtain ⟨D,rfl⟩:=Int.eq_ofNat_of_zero_le hd.1
   have:=of_fin ⟨W - 1,by omega⟩ ⟨H - 1,by omega⟩ ⟨X,by omega⟩ ⟨D,by omega⟩
   simp only [show W - 1 + 1=W by omega,show H - 1 + 1=H by omega,zI] at this
   exact this (by omega)
  ·rw [if_neg (fun q=>hx q.1)]
   have hf:=fun (j:Nat) (hj:j < 5)=>side_fin ⟨W - 1,by omega⟩ ⟨H - 1,by omega⟩ ⟨j,hj⟩
   simp only [show W - 1 + 1=W by omega,show H - 1 + 1=H by omega,zI] at hf
   have n0:sa 0 0 1 x W=-1:=sa_none _ _ _ _ _ fun j hj e=>hx (by have:=(hf j (by omega)).1 hj; omega)
   have n1:sa (W:Int) ((W:Int) - 1) (W:Int) x H=-1:=sa_none _ _ _ _ _ fun j hj e=>hx (by have:=(hf j (by omega)).2.1 hj; rw [e] at this; exact this)
   have n2:sa ((W:Int) + (H:Int)) (((W * H:Nat):Int) - 1) (-1) x W=-1:=sa_none _ _ _ _ _ fun j hj e=>hx (by have:=(hf j (by omega)).2.2.1 hj; rw [e] at this; exact this)
   have n3:sa ((W:Int) + (H:Int) + (W:Int)) (((W * H:Nat):Int) - 1 - (W:Int) + 1) (-(W:Int)) x H=-1:=sa_none _ _ _ _ _ fun j hj e=>hx (by have:=(hf j (by omega)).2.2.2 hj; rw [e] at this; exact this)
   unfold of3 of2 of1 of0
   rw [n0,n1,n2,n3]
   repeat' split
   all_goals rfl
 ·rw [if_neg (fun q=>hd q.2)]
  unfold of3 of2 of1 of0
  rw [if_neg (by omega),if_neg (by omega),if_neg (by omega),if_neg (by omega)]
theorem inRay_in3 {W H:Nat} {cs:List (Int × Int)} (hok:okG (W:Int) cs=true) (hW:1<=W/\W<=5) (hH5:1<=H/\H<=5) (hl:cs.length=W * H) (hH:(cs.length:Int) / (W:Int)=(H:Int)) (k:Int):in3 W H cs.length k=inRay (W:Int) cs k:=by
 rw [hl,in3_is W H hW hH5 k]
 unfold inRay
 rw [manyG_ok hok hH,hH]
 by_cases hk:0<=k/\k < 2 * ((W:Int) + (H:Int))
 ·rw [if_pos hk,if_pos ⟨hok,hk⟩]
 ·rw [if_neg hk,if_neg (fun q=>hk q.2)]
theorem outOf_of3 {W H:Nat} {cs:List (Int × Int)} (hok:okG (W:Int) cs=true) (hW:1<=W/\W<=5) (hH5:1<=H/\H<=5) (hl:cs.length=W * H) (hH:(cs.length:Int) / (W:Int)=(H:Int)) (x d:Int):of3 W H cs.length x d=outOf (W:Int) cs x d:=by
 unfold outOf
 rw [manyG_ok hok hH,hH,hl,of3_is W H hW hH5 x d]
 rw [show (2 * ((W:Int) + (H:Int))).toNat=2 * (W + H) by omega]
 by_cases hx:(0<=x/\x < ((W * H:Nat):Int))/\(0<=d/\d<=3)
 ·rw [if_pos hx,if_pos ⟨hok,hx⟩]
 ·rw [if_neg hx,if_neg (fun q=>hx q.2)]
end Sp
namespace Sp
open Go.RowKit
end Sp
namespace Sp
open Go.RowKit
def inS (wd:Int) (cs:List (Int × Int)) (k:Int):Bool:=decide (0<=k/\k < manyG wd cs)
theorem inS_ok {wd:Int} {cs:List (Int × Int)} {k:Int} (h:inS wd cs k=true):okG wd cs=true:=by
 rcases hk:okG wd cs with _ | _
 ·simp only [inS,manyG_bad hk,decide_eq_true_eq] at h; omega
 ·rfl
end Sp
end Go.Proofs.YtdhopelplokehaaGreat
