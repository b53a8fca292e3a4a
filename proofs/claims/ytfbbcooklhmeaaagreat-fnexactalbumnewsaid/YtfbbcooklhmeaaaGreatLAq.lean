/- Of the proof: PJo -/
import Derived.Test.YtfbbcooklhmeaaaGreatLAo
import Derived.Test.YtfbbcooklhmeaaaGreatLAp
set_option linter.unusedVariables false
namespace Go.Proofs.YtfbbcooklhmeaaaGreat
variable {wd:Int} {cs:List (Int × Int)} {H W:Nat}
namespace Sp
variable {aLt:Nat->Func->Func}
open Go.RowKit
end Sp
namespace Sp
variable {aLt:Nat->Func->Func}
open Go.RowKit
abbrev nI (n:Nat):Int:=(n:Int)
theorem zlk:∀ W:Fin 5,∀ H:Fin 5,∀ k:Fin 20,k.val < 2 * (W.val + 1 + (H.val + 1)) ->
  (0<=(zde (nI (W.val + 1)) (nI (H.val + 1)) (nI k.val)).1/\(zde (nI (W.val + 1)) (nI (H.val + 1)) (nI k.val)).1 < nI (W.val + 1) * nI (H.val + 1)) /\
  inG ((zde (nI (W.val + 1)) (nI (H.val + 1)) (nI k.val)).1 / nI (W.val + 1) + zbf (((zde (nI (W.val + 1)) (nI (H.val + 1)) (nI k.val)).2 + 2) % 4)) ((zde (nI (W.val + 1)) (nI (H.val + 1)) (nI k.val)).1 % nI (W.val + 1) + zbu (((zde (nI (W.val + 1)) (nI (H.val + 1)) (nI k.val)).2 + 2) % 4)) (nI (W.val + 1)) (nI (H.val + 1))=false /\
  ofN (nI (W.val + 1)) (nI (H.val + 1)) (zde (nI (W.val + 1)) (nI (H.val + 1)) (nI k.val)).1 (((zde (nI (W.val + 1)) (nI (H.val + 1)) (nI k.val)).2 + 2) % 4) (2 * (W.val + 1 + (H.val + 1)))=nI k.val:=by decide +kernel
theorem zkR:∀ W:Fin 5,∀ H:Fin 5,∀ x:Fin 25,∀ d:Fin 4,x.val < (W.val + 1) * (H.val + 1) ->
  if inG (nI x.val / nI (W.val + 1) + zbf (nI d.val)) (nI x.val % nI (W.val + 1) + zbu (nI d.val)) (nI (W.val + 1)) (nI (H.val + 1))=true then ofN (nI (W.val + 1)) (nI (H.val + 1)) (nI x.val) (nI d.val) (2 * (W.val + 1 + (H.val + 1)))=-1
  else (0<=ofN (nI (W.val + 1)) (nI (H.val + 1)) (nI x.val) (nI d.val) (2 * (W.val + 1 + (H.val + 1)))/\ofN (nI (W.val + 1)) (nI (H.val + 1)) (nI x.val) (nI d.val) (2 * (W.val + 1 + (H.val + 1))) < 2 * (nI (W.val + 1) + nI (H.val + 1))) /\
   zde (nI (W.val + 1)) (nI (H.val + 1)) (ofN (nI (W.val + 1)) (nI (H.val + 1)) (nI x.val) (nI d.val) (2 * (W.val + 1 + (H.val + 1))))=(nI x.val,(nI d.val + 2) % 4):=by decide +kernel
theorem zgw (W H k:Nat) (hW:1<=W/\W<=5) (hH:1<=H/\H<=5) (hk:k < 2 * (W + H)) (x d:Int) (hs:zde W H k=(x,d)) :
  (0<=x/\x < (W:Int) * (H:Int))/\(0<=d/\d<=3)/\inG (x / (W:Int) + zbf ((d + 2) % 4)) (x % (W:Int) + zbu ((d + 2) % 4)) W H=false/\ofN W H x ((d + 2) % 4) (2 * (W + H))=(k:Int):=by
 have h:=zlk ⟨W - 1,by omega⟩ ⟨H - 1,by omega⟩ ⟨k,by omega⟩
 simp only [show W - 1 + 1=W by omega,show H - 1 + 1=H by omega,nI] at h
 have h2:=h hk
 rw [hs] at h2
 exact ⟨h2.1,zkk _ _ _ _ _ hs,h2.2.1,h2.2.2⟩
theorem zm8 (W H x d:Nat) (hW:1<=W/\W<=5) (hH:1<=H/\H<=5) (hx:x < W * H) (hd:d < 4) :
  (inG ((x:Int) / (W:Int) + zbf (d:Int)) ((x:Int) % (W:Int) + zbu (d:Int)) W H=true/\ofN W H x d (2 * (W + H))=-1) \/
  (inG ((x:Int) / (W:Int) + zbf (d:Int)) ((x:Int) % (W:Int) + zbu (d:Int)) W H=false/\∃ k:Nat,k < 2 * (W + H)/\ofN W H x d (2 * (W + H))=(k:Int)/\zde W H k=((x:Int),((d:Int) + 2) % 4)):=by
 have hx2:x < 25:=nll hx (Nat.le_trans (Nat.mul_le_mul hW.2 hH.2) (by omega))
 have h:=zkR ⟨W - 1,by omega⟩ ⟨H - 1,by omega⟩ ⟨x,hx2⟩ ⟨d,hd⟩
 simp only [show W - 1 + 1=W by omega,show H - 1 + 1=H by omega,nI] at h
 have h2:=h hx
 by_cases q:inG ((x:Int) / (W:Int) + zbf (d:Int)) ((x:Int) % (W:Int) + zbu (d:Int)) W H=true
 ·rw [if_pos q] at h2
  exact Or.inl ⟨q,h2⟩
 ·rw [if_neg q] at h2
  obtain ⟨⟨k0,k1⟩,k2⟩:=h2
  obtain ⟨k,hk⟩:=Int.eq_ofNat_of_zero_le k0
  rw [hk] at k1 k2
  exact Or.inr ⟨by simpa using q,k,by omega,hk,k2⟩
end Sp
namespace Sp
variable {aLt:Nat->Func->Func}
open Go.RowKit
structure Siz (wd:Int) (cs:List (Int × Int)) (W H:Nat):Prop where
 ok:okG wd cs=true
 ew:wd=(W:Int)
 hW:1<=W/\W<=5
 hH:1<=H/\H<=5
 el:cs.length=W * H
 hI:(cs.length:Int) / wd=(H:Int)
 em:zcg wd cs=2 * ((W:Int) + (H:Int))
theorem zew (h:okG wd cs=true):∃ W H,Siz wd cs W H:=by
 obtain ⟨W,H,rfl,h1,h2,h3,h4,el,hH,hHI⟩:=zfv wd cs h
 exact ⟨W,H,h,rfl,⟨h1,h2⟩,⟨h3,h4⟩,el,hHI,zcs h hHI⟩
theorem zdK (S:Siz wd cs W H) (k:Nat) (hk:k < 2 * (W + H)):zbX wd cs (k:Int)=((zde W H k).1,(zde W H k).2,true):=by
 unfold zbX
 rw [if_pos ⟨S.ok,by omega,by rw [S.em]; omega⟩,S.hI,S.ew]
theorem zeR (S:Siz wd cs W H) (x d:Int) (hx:0<=x/\x < (W:Int) * (H:Int)) (hd:0<=d/\d<=3):zct wd cs x d=ofN W H x d (2 * (W + H)):=by
 unfold zct
 have e1:(cs.length:Int)=(W:Int) * (H:Int):=by rw [S.el]; simp
 rw [if_pos ⟨S.ok,by rw [e1]; exact hx,hd⟩,S.em,S.hI,S.ew,show (2 * ((W:Int) + (H:Int))).toNat=2 * (W + H) by omega]
theorem zjn (S:Siz wd cs W H) (x d:Int) (hx:0<=x/\x < (W:Int) * (H:Int)) (hd:0<=d/\d<=3) :
  zbH wd cs x d=if inG (x / (W:Int) + zbf d) (x % (W:Int) + zbu d) W H=true then ((x / (W:Int) + zbf d) * (W:Int) + (x % (W:Int) + zbu d),d,true) else (0,0,false):=by
 unfold zbH
 have e1:(cs.length:Int)=(W:Int) * (H:Int):=by rw [S.el]; simp
 rw [S.hI,S.ew]
 by_cases g:inG (x / (W:Int) + zbf d) (x % (W:Int) + zbu d) W H=true
 ·rw [if_pos ⟨by rw [<- S.ew]; exact S.ok,by rw [e1]; exact hx,hd,g⟩,if_pos g]
 ·rw [if_neg (fun q=>g q.2.2.2),if_neg g]
theorem zlQ {k x d:Int} (h:zbX wd cs k=(x,d,true)) :
  (0<=d/\d<=3)/\zbH wd cs x ((d + 2) % 4)=(0,0,false)/\zct wd cs x ((d + 2) % 4)=k/\k < zcg wd cs:=by
 unfold zbX at h
 split at h
 ·next c =>
  obtain ⟨W,H,S⟩:=zew c.1
  have hk:=c.2
  rw [S.em] at hk
  obtain ⟨K,rfl⟩:=Int.eq_ofNat_of_zero_le hk.1
  have hs:zde W H K=(x,d):=by
   rw [S.hI,S.ew] at h
   simp only [Prod.mk.injEq] at h
   rw [<- h.1,<- h.2.1]
  obtain ⟨hx,hd,hg,ho⟩:=zgw W H K S.hW S.hH (by omega) x d hs
  refine ⟨hd,?_,?_,c.2.2⟩
  ·rw [zjn S x _ hx (by omega),if_neg (by simp [hg])]
  ·rw [zeR S x _ hx (by omega)]; exact ho
 ·simp at h
theorem zoE {x d:Int} (hk:okG wd cs=true) (hx:0<=x/\x < (cs.length:Int)) (hd:0<=d/\d<=3) :
  (∃ x2 d2,zbH wd cs x d=(x2,d2,true)/\zct wd cs x d=-1)\/(zbH wd cs x d=(0,0,false)/\zbX wd cs (zct wd cs x d)=(x,(d + 2) % 4,true)):=by
 obtain ⟨W,H,S⟩:=zew hk
 have e1:(cs.length:Int)=(W:Int) * (H:Int):=by rw [S.el]; simp
 rw [e1] at hx
 obtain ⟨X,rfl⟩:=Int.eq_ofNat_of_zero_le hx.1
 obtain ⟨D,rfl⟩:=Int.eq_ofNat_of_zero_le hd.1
 have hX:X < W * H:=by have:=hx.2; exact_mod_cast this
 rcases zm8 W H X D S.hW S.hH hX (by omega) with ⟨g,o⟩ | ⟨g,k,hk,o,s⟩
 ·left
  exact ⟨_,_,by rw [zjn S _ _ hx hd,if_pos g],by rw [zeR S _ _ hx hd]; exact o⟩
 ·right
  refine ⟨by rw [zjn S _ _ hx hd,if_neg (by simp [g])],?_⟩
  rw [zeR S _ _ hx hd,o,zdK S k hk,s]
end Sp
end Go.Proofs.YtfbbcooklhmeaaaGreat
