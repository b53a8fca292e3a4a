/- Part. -/
import Derived.Test.YtbggojblgbeohaaGreatLAu
set_option linter.unusedVariables false
namespace Go.Proofs.YtbggojblgbeohaaGreat
variable{wd wd':Int}{ka sg ta:Int->Int}{cs cs':List (Int × Int)}{H W:Nat}
namespace Sp
variable{aLt:Nat->Func->Func}
def za0(k:Int):Int:=if k=2 then 3 else if k=3 then 2 else if k=4 then 5 else if k=5 then 4 else k
def other(c:Int × Int):Int × Int:=(za0 c.1,c.2)
def zaO(W H j:Nat):Nat:=(H - 1 - j % H) * W+j / H
def zk4(W H:Nat)(cs:List (Int × Int)):List (Int × Int):=(List.range cs.length).map fun j=>other (cs.getD (zaO W H j) (0,0))
def zaN(W j:Nat):Nat:=j / W * W+(W - 1 - j % W)
def zkj(W:Nat)(cs:List (Int × Int)):List (Int × Int):=(List.range cs.length).map fun j=>other (cs.getD (zaN W j) (0,0))
def zhc(wd:Int)(cs:List (Int × Int)):Int × List (Int × Int):=if okG wd cs then ((cs.length:Int) / wd,zk4 wd.toNat (cs.length / wd.toNat) cs) else (0,[])
def zg1(wd:Int)(cs:List (Int × Int)):Int × List (Int × Int):=if okG wd cs then (wd,zkj wd.toNat cs) else (0,[])
theorem zoU(n k:Nat)(src f:Nat->Nat)(g:Nat->Int × Int)(z:Int × Int)(hk:k<n)(hf:f k<n)(h:∀ j,j<n->(src j=k ↔ j=f k)) :
  ((List.range n).map fun j=>if src j<k then g (src j) else z).set (f k) (g k)=(List.range n).map fun j=>if src j<k+1 then g (src j) else z:=by
 apply List.ext_getElem
 ·simp
 ·intro j h1 h2
  have hj:j<n:=by simpa using h2
  rw[List.getElem_set]
  simp only[List.getElem_map,List.getElem_range]
  have hh:=h j hj
  by_cases e:f k=j
  ·have e2:src j=k:=hh.2 e.symm
   rw[if_pos e,if_pos (by omega),e2]
  ·have e2:src j≠k:=fun x=>e (hh.1 x).symm
   rw[if_neg e]
   by_cases e3:src j<k
   ·rw[if_pos e3,if_pos (by omega)]
   ·rw[if_neg e3,if_neg (by omega)]
theorem zfO(W H j k:Nat)(hW:1<=W/\W<=5)(hH:1<=H/\H<=5)(hj:j<W * H)(hk:k<W * H):(zaO W H j=k ↔ j=k % W * H+H - 1 - k / W):=by
 obtain⟨a,b⟩:=hW
 obtain⟨c,d⟩:=hH
 unfold zaO
 rcases (show W=1\/W=2\/W=3\/W=4\/W=5 by omega) with rfl|rfl|rfl|rfl|rfl <;>
 rcases (show H=1\/H=2\/H=3\/H=4\/H=5 by omega) with rfl|rfl|rfl|rfl|rfl <;> omega
theorem zeX(W H k:Nat)(hW:1<=W/\W<=5)(hH:1<=H/\H<=5)(hk:k<W * H):k % W * H+H - 1 - k / W<W * H/\zaO W H k<W * H/\k / W<H/\k % W<W:=by
 obtain⟨a,b⟩:=hW
 obtain⟨c,d⟩:=hH
 unfold zaO
 rcases (show W=1\/W=2\/W=3\/W=4\/W=5 by omega) with rfl|rfl|rfl|rfl|rfl <;>
 rcases (show H=1\/H=2\/H=3\/H=4\/H=5 by omega) with rfl|rfl|rfl|rfl|rfl <;> omega
theorem zfw(W j k n:Nat)(hW:1<=W/\W<=5)(hn:n % W=0)(hj:j<n)(hk:k<n):(zaN W j=k ↔ j=k / W * W+W - 1 - k % W):=by
 obtain⟨a,b⟩:=hW
 unfold zaN
 rcases (show W=1\/W=2\/W=3\/W=4\/W=5 by omega) with rfl|rfl|rfl|rfl|rfl <;> omega
theorem zeK(W k n:Nat)(hW:1<=W/\W<=5)(hn:n % W=0)(hk:k<n):k / W * W+W - 1 - k % W<n/\zaN W k<n/\k % W<W:=by
 obtain⟨a,b⟩:=hW
 unfold zaN
 rcases (show W=1\/W=2\/W=3\/W=4\/W=5 by omega) with rfl|rfl|rfl|rfl|rfl <;> omega
def perm(s:Nat->Nat)(f:Int × Int->Int × Int)(cs:List (Int × Int)):List (Int × Int):=(List.range cs.length).map fun j=>f (cs.getD (s j) (0,0))
theorem zcm(s:Nat->Nat)(f:Int × Int->Int × Int)(cs:List (Int × Int)):(perm s f cs).length=cs.length:=by simp[perm]
theorem zot(k l:Int):okC (za0 k) l=okC k l:=by
 by_cases h2:k=2
 ·subst h2;simp[za0,okC]
 by_cases h3:k=3
 ·subst h3;simp[za0,okC]
 by_cases h4:k=4
 ·subst h4;simp[za0,okC]
 by_cases h5:k=5
 ·subst h5;simp[za0,okC]
 simp[za0,h2,h3,h4,h5]
theorem zlL(s:Nat->Nat)(cs:List (Int × Int))(hs:∀ j,j<cs.length->s j<cs.length)(h:(cs.all fun c=>okC c.1 c.2)=true):((perm s other cs).all fun c=>okC c.1 c.2)=true:=by
 rw[List.all_eq_true] at h ⊢
 intro c hc
 simp only[perm,List.mem_map,List.mem_range] at hc
 obtain⟨j,hj,rfl⟩:=hc
 have hl:=hs j hj
 have:=h cs[s j] (List.getElem_mem hl)
 have e:cs.getD (s j) (0,0)=cs[s j]:=by simp[hl]
 rw[e]
 simp only[other]
 rw[zot]
 exact this
theorem zni(W H:Nat)(cs:List (Int × Int)):zk4 W H cs=perm (zaO W H) other cs:=rfl
theorem zmn(W:Nat)(cs:List (Int × Int)):zkj W cs=perm (zaN W) other cs:=rfl
theorem zht(W H:Nat)(xs:List (Int × Int))(hW:1<=W/\W<=5)(hH:1<=H/\H<=5)(hl:xs.length=W * H)(hok:(xs.all fun c=>okC c.1 c.2)=true):okG (W:Int) xs=true:=by
 refine zim _ _ ?_ hok
 simp only[zcb,decide_eq_true_eq,hl]
 obtain⟨a,b⟩:=hW
 obtain⟨c,d⟩:=hH
 rcases (show W=1\/W=2\/W=3\/W=4\/W=5 by omega) with rfl|rfl|rfl|rfl|rfl <;> omega
theorem zrw(wd:Int)(cs:List (Int × Int))(h:okG wd cs=true):(cs.all fun c=>okC c.1 c.2)=true:=by
 simp only[okG,Bool.and_eq_true] at h
 exact h.2
theorem zq6(W H:Nat)(cs:List (Int × Int))(hok:okG (W:Int) cs=true)(hW:1<=W/\W<=5)(hH:1<=H/\H<=5)(hl:cs.length=W * H):zhc (W:Int) cs=((H:Int),perm (zaO W H) other cs)/\okG (H:Int) (perm (zaO W H) other cs)=true:=by
 have hd:cs.length / W=H:=by rw[hl];exact Nat.mul_div_cancel_left H (by omega)
 refine⟨?_,?_⟩
 ·have e:(cs.length:Int) / (W:Int)=(H:Int):=by rw[<- hd];simp
  simp only[zhc,hok,if_true,Int.toNat_natCast,hd,e,zni]
 ·refine zht H W _ hH hW (by rw[zcm,hl,Nat.mul_comm]) (zlL _ _ (fun j hj=>?_) (zrw _ _ hok))
  rw[hl] at hj ⊢
  exact(zeX W H j hW hH hj).2.1
theorem zp9(W H:Nat)(cs:List (Int × Int))(hok:okG (W:Int) cs=true)(hW:1<=W/\W<=5)(hH:1<=H/\H<=5)(hl:cs.length=W * H):zg1 (W:Int) cs=((W:Int),perm (zaN W) other cs)/\okG (W:Int) (perm (zaN W) other cs)=true:=by
 refine⟨?_,?_⟩
 ·simp only[zg1,hok,if_true,Int.toNat_natCast,zmn]
 ·refine zht W H _ hW hH (by rw[zcm,hl]) (zlL _ _ (fun j hj=>?_) (zrw _ _ hok))
  exact(zeK W j cs.length hW (by rw[hl];exact Nat.mul_mod_right W H) hj).2.1
end Sp
namespace Sp
variable{aLt:Nat->Func->Func}
open Go.RowKit
structure Sym(wd:Int)(cs:List (Int × Int))(wd':Int)(cs':List (Int × Int))(sg ta ka:Int->Int):Prop where
 kdS:∀ x,0<=x/\x<(cs.length:Int)->kd cs' (sg x)=za0 (kd cs x)
 ray:∀ x d,okS cs (x,d)->(zbD wd' cs' (sg x) (ta d)).2.2=(zbD wd cs x d).2.2/\((zbD wd cs x d).2.2=true->(zbD wd' cs' (sg x) (ta d)).1=sg (zbD wd cs x d).1)
 out:∀ x d,okS cs (x,d)->(zbD wd cs x d).2.2=false->zbR wd' cs' (sg x) (ta d)=ka (zbR wd cs x d)
 dir:∀ k d,0<=d/\d<=3->zaH (za0 k) (ta d)=ta (zaH k d)
def mvV(sg ta:Int->Int)(u:Int × Int × Int):Int × Int × Int:=(sg u.1,ta u.2.1,u.2.2)
def mvE(sg ka:Int->Int)(t:Int × Int × Int):Int × Int × Int:=(t.1,if t.1=0 then ka t.2.1 else sg t.2.1,t.2.2)
def mvT(sg ta ka:Int->Int)(t:Tr):Tr:=(t.1.map (mvV sg ta),t.2.map (mvE sg ka))
theorem zih(sg ta ka:Int->Int)(a b:Tr):mvT sg ta ka (za5 a b)=za5 (mvT sg ta ka a) (mvT sg ta ka b):=by simp[mvT,za5]
theorem zgi(sg ta ka:Int->Int)(k x:Int)(wt:Nat):mvT sg ta ka (zcT k x wt)=zcT k (if k=0 then ka x else sg x) wt:=by
 unfold mvT zcT
 by_cases h:wt=0
 ·simp[h]
 ·simp[h,mvE]
theorem zoy(k:Int):(za0 k=1 ↔ k=1)/\(za0 k=7 ↔ k=7)/\(za0 k=6 ↔ k=6)/\((za0 k=4\/za0 k=5) ↔ (k=4\/k=5)):=by
 unfold za0
 split
 ·omega
 ·split
  ·omega
  ·split
   ·omega
   ·split <;> omega
theorem zl2(S:Sym wd cs wd' cs' sg ta ka){f:Nat}(ih:∀ x d wt,okS cs (x,d)->zaF wd' cs' f (sg x) (ta d) wt=mvT sg ta ka (zaF wd cs f x d wt))(x e:Int)(n:Nat)(hs:okS cs (x,e)) :
  lvT wd' cs' (zaF wd' cs' f) (sg x) (ta e) n=mvT sg ta ka (lvT wd cs (zaF wd cs f) x e n):=by
 obtain⟨r1,r2⟩:=S.ray x e hs
 unfold lvT
 by_cases h0:n=0
 ·rw[if_pos h0,if_pos h0];rfl
 ·rw[if_neg h0,if_neg h0,r1]
  by_cases c:(zbD wd cs x e).2.2=true
  ·rw[if_pos c,if_pos c,r2 c]
   obtain⟨q1,q2,_⟩:=zbk c
   exact ih _ _ _ ⟨q1,q2⟩
  ·rw[if_neg c,if_neg c,zgi,if_pos rfl,S.out x e hs (by simpa using c)]
theorem zl1(S:Sym wd cs wd' cs' sg ta ka):∀ f x d wt,okS cs (x,d)->zaF wd' cs' f (sg x) (ta d) wt=mvT sg ta ka (zaF wd cs f x d wt):=by
 intro f
 induction f with
 | zero=>intro x d wt _;rfl
 | succ f ih =>
  intro x d wt hs
  simp only[zaF]
  by_cases h0:wt=0
  ·rw[if_pos h0,if_pos h0];rfl
  ·rw[if_neg h0,if_neg h0,zih]
   have e0:mvT sg ta ka ([(x,d,(wt:Int))],[])=([(sg x,ta d,(wt:Int))],[]):=by simp[mvT,mvV]
   rw[e0]
   congr 1
   have hk:=S.kdS x hs.1
   obtain⟨o1,o7,o6,o45⟩:=zoy (kd cs x)
   have hd:okS cs (x,zaH (kd cs x) d):=⟨hs.1,zcO hs.2⟩
   have hdir:=S.dir (kd cs x) d hs.2
   unfold zbg
   rw[hk]
   by_cases k1:kd cs x=1
   ·rw[if_pos (o1.2 k1),if_pos k1,zgi,if_neg (by omega)]
   rw[if_neg (fun z=>k1 (o1.1 z)),if_neg k1]
   by_cases k7:kd cs x=7
   ·rw[if_pos (o7.2 k7),if_pos k7,zgi,if_neg (by omega)]
   rw[if_neg (fun z=>k7 (o7.1 z)),if_neg k7]
   by_cases k6:kd cs x=6
   ·rw[if_pos (o6.2 k6),if_pos k6,zih,zgi,if_neg (by omega),zl2 S ih _ _ _ hs]
   rw[if_neg (fun z=>k6 (o6.1 z)),if_neg k6]
   by_cases k45:kd cs x=4\/kd cs x=5
   ·rw[if_pos (o45.2 k45),if_pos k45,zih,zih,zgi,if_neg (by omega),hdir,zl2 S ih _ _ _ hs,zl2 S ih _ _ _ hd]
   ·rw[if_neg (fun z=>k45 (o45.1 z)),if_neg k45,hdir,zl2 S ih _ _ _ hd]
def wI(n:Nat):Int:=n
def tuX(W H x:Int):Int:=x % W * H+H - 1 - x / W
def tuD(d:Int):Int:=(d+1) % 4
def flX(W x:Int):Int:=x / W * W+W - 1 - x % W
def flD(d:Int):Int:=(4 - d) % 4
def goX(W H x d:Int):Int × Bool:=if inG (x / W+zbj d) (x % W+zby d) W H=true then ((x / W+zbj d) * W+(x % W+zby d),true) else (0,false)
set_option maxRecDepth 100000 in
theorem ztj:∀ W:Fin 5,∀ H:Fin 5,∀ x:Fin 25,∀ d:Fin 4,x.val<(W.val+1) * (H.val+1) ->
  (0<=tuX (wI (W.val+1)) (wI (H.val+1)) (wI x.val)/\tuX (wI (W.val+1)) (wI (H.val+1)) (wI x.val)<wI (H.val+1) * wI (W.val+1)) /\
  (goX (wI (H.val+1)) (wI (W.val+1)) (tuX (wI (W.val+1)) (wI (H.val+1)) (wI x.val)) (tuD (wI d.val))).2=(goX (wI (W.val+1)) (wI (H.val+1)) (wI x.val) (wI d.val)).2 /\
  (if (goX (wI (W.val+1)) (wI (H.val+1)) (wI x.val) (wI d.val)).2=true then
   (goX (wI (H.val+1)) (wI (W.val+1)) (tuX (wI (W.val+1)) (wI (H.val+1)) (wI x.val)) (tuD (wI d.val))).1=tuX (wI (W.val+1)) (wI (H.val+1)) (goX (wI (W.val+1)) (wI (H.val+1)) (wI x.val) (wI d.val)).1
  else ofN (wI (H.val+1)) (wI (W.val+1)) (tuX (wI (W.val+1)) (wI (H.val+1)) (wI x.val)) (tuD (wI d.val)) (2 * (H.val+1+(W.val+1)))=(ofN (wI (W.val+1)) (wI (H.val+1)) (wI x.val) (wI d.val) (2 * (W.val+1+(H.val+1)))+wI (H.val+1)) % (2 * (wI (W.val+1)+wI (H.val+1)))):=by decide +kernel
set_option maxRecDepth 100000 in
theorem zsN:∀ W:Fin 5,∀ H:Fin 5,∀ x:Fin 25,∀ d:Fin 4,x.val<(W.val+1) * (H.val+1) ->
  (0<=flX (wI (W.val+1)) (wI x.val)/\flX (wI (W.val+1)) (wI x.val)<wI (W.val+1) * wI (H.val+1)) /\
  (goX (wI (W.val+1)) (wI (H.val+1)) (flX (wI (W.val+1)) (wI x.val)) (flD (wI d.val))).2=(goX (wI (W.val+1)) (wI (H.val+1)) (wI x.val) (wI d.val)).2 /\
  (if (goX (wI (W.val+1)) (wI (H.val+1)) (wI x.val) (wI d.val)).2=true then
   (goX (wI (W.val+1)) (wI (H.val+1)) (flX (wI (W.val+1)) (wI x.val)) (flD (wI d.val))).1=flX (wI (W.val+1)) (goX (wI (W.val+1)) (wI (H.val+1)) (wI x.val) (wI d.val)).1
  else ofN (wI (W.val+1)) (wI (H.val+1)) (flX (wI (W.val+1)) (wI x.val)) (flD (wI d.val)) (2 * (W.val+1+(H.val+1)))=(wI (W.val+1) - 1 - ofN (wI (W.val+1)) (wI (H.val+1)) (wI x.val) (wI d.val) (2 * (W.val+1+(H.val+1)))+2 * (wI (W.val+1)+wI (H.val+1))) % (2 * (wI (W.val+1)+wI (H.val+1)))):=by decide +kernel
set_option maxRecDepth 100000 in
theorem zrF:∀ W:Fin 5,∀ H:Fin 5,∀ k:Fin 20,k.val<2 * (W.val+1+(H.val+1)) ->
  zcI (wI (H.val+1)) (wI (W.val+1)) ((wI k.val+wI (H.val+1)) % (2 * (wI (W.val+1)+wI (H.val+1))))=(tuX (wI (W.val+1)) (wI (H.val+1)) (zcI (wI (W.val+1)) (wI (H.val+1)) (wI k.val)).1,tuD (zcI (wI (W.val+1)) (wI (H.val+1)) (wI k.val)).2) /\
  zcI (wI (W.val+1)) (wI (H.val+1)) ((wI (W.val+1) - 1 - wI k.val+2 * (wI (W.val+1)+wI (H.val+1))) % (2 * (wI (W.val+1)+wI (H.val+1))))=(flX (wI (W.val+1)) (zcI (wI (W.val+1)) (wI (H.val+1)) (wI k.val)).1,flD (zcI (wI (W.val+1)) (wI (H.val+1)) (wI k.val)).2):=by decide +kernel
theorem zti(k d:Int)(hd:0<=d/\d<=3):zaH (za0 k) (tuD d)=tuD (zaH k d):=by
 rcases (show k=2\/k=3\/k=4\/k=5\/(k≠2/\k≠3/\k≠4/\k≠5) by omega) with rfl|rfl|rfl|rfl|⟨a,b,c,e⟩
 case inr.inr.inr.inr =>
  have ek:za0 k=k:=by simp[za0,a,b,c,e]
  rw[ek,zbN k (tuD d) (by unfold tuD;omega) (by unfold tuD;omega),zbN k d hd.1 hd.2]
  simp[a,b,c,e]
 all_goals rcases (show d=0\/d=1\/d=2\/d=3 by omega) with rfl|rfl|rfl|rfl <;> decide
theorem zsM(k d:Int)(hd:0<=d/\d<=3):zaH (za0 k) (flD d)=flD (zaH k d):=by
 rcases (show k=2\/k=3\/k=4\/k=5\/(k≠2/\k≠3/\k≠4/\k≠5) by omega) with rfl|rfl|rfl|rfl|⟨a,b,c,e⟩
 case inr.inr.inr.inr =>
  have ek:za0 k=k:=by simp[za0,a,b,c,e]
  rw[ek,zbN k (flD d) (by unfold flD;omega) (by unfold flD;omega),zbN k d hd.1 hd.2]
  simp[a,b,c,e]
 all_goals rcases (show d=0\/d=1\/d=2\/d=3 by omega) with rfl|rfl|rfl|rfl <;> decide
theorem zeS(S:Siz wd cs W H)(x d:Int)(hx:0<=x/\x<(W:Int) * (H:Int))(hd:0<=d/\d<=3):(zbD wd cs x d).1=(goX W H x d).1/\(zbD wd cs x d).2.2=(goX W H x d).2:=by
 rw[zio S x d hx hd]
 unfold goX
 split
 ·exact⟨rfl,rfl⟩
 ·exact⟨rfl,rfl⟩
theorem zog(s:Nat->Nat)(j x:Nat)(hj:j<cs.length)(hx:x<cs.length)(h:s j=x):kd (perm s other cs) (j:Int)=za0 (kd cs (x:Int)):=by
 unfold kd perm
 simp only[Int.toNat_natCast,List.getD_eq_getElem?_getD,List.getElem?_map,List.getElem?_range hj,Option.map_some,Option.getD_some,other,h]
theorem zrI(S:Siz wd cs W H)(k:Int)(hk:0<=k/\k<2 * ((W:Int)+(H:Int))):zcC wd cs k=(k+(H:Int)) % (2 * ((W:Int)+(H:Int))):=by
 unfold zcC
 rw[S.em,S.hI,if_pos ⟨S.ok,hk.1,hk.2⟩]
theorem zrs(S:Siz wd cs W H)(k:Int)(hk:0<=k/\k<2 * ((W:Int)+(H:Int))):zcz wd cs k=((W:Int) - 1 - k+2 * ((W:Int)+(H:Int))) % (2 * ((W:Int)+(H:Int))):=by
 unfold zcz
 rw[S.em,if_pos ⟨S.ok,hk.1,hk.2⟩,S.ew]
theorem zl4(S:Siz wd cs W H)(S':Siz (H:Int) (perm (zaO W H) other cs) H W):Sym wd cs (H:Int) (perm (zaO W H) other cs) (tuX W H) tuD (zcC wd cs):=by
 have hW:=S.hW
 have hH:=S.hH
 have e1:(cs.length:Int)=(W:Int) * (H:Int):=by rw[S.el];simp
 have hWH:W * H<=25:=Nat.le_trans (Nat.mul_le_mul hW.2 hH.2) (by omega)
 have nat:∀ x d:Int,okS cs (x,d)->∃ X D:Nat,x=(X:Int)/\d=(D:Int)/\X<W * H/\D<4:=by
  intro x d h
  obtain⟨X,hX⟩:=Int.eq_ofNat_of_zero_le h.1.1
  obtain⟨D,hD⟩:=Int.eq_ofNat_of_zero_le h.2.1
  have h1:=h.1.2
  have h2:=h.2.2
  simp only at hX hD h1 h2
  have h3:X<W * H:=by rw[hX,S.el] at h1;exact_mod_cast h1
  exact⟨X,D,hX,hD,h3,by omega⟩
 have geo:=fun (X D:Nat) (h1:X<W * H) (h2:D<4)=>ztj ⟨W - 1,by omega⟩ ⟨H - 1,by omega⟩ ⟨X,by omega⟩ ⟨D,h2⟩ (by simp only[show W - 1+1=W by omega,show H - 1+1=H by omega];exact h1)
 simp only[show W - 1+1=W by omega,show H - 1+1=H by omega,wI] at geo
 have tar:∀ d:Int,0<=tuD d/\tuD d<=3:=fun d=>by unfold tuD;omega
 have inX:∀ X:Nat,X<W * H->0<=(X:Int)/\(X:Int)<(W:Int) * (H:Int):=fun X h=>⟨by omega,by exact_mod_cast h⟩
 refine⟨?_,?_,?_,zti⟩
 ·intro x hx
  obtain⟨X,hX⟩:=Int.eq_ofNat_of_zero_le hx.1
  have h3:X<W * H:=by have:=hx.2;rw[hX,S.el] at this;exact_mod_cast this
  subst hX
  obtain⟨hj,_,hdv,hmd⟩:=zeX W H X hW hH h3
  have hinv:=(zfO W H (X % W * H+H - 1 - X / W) X hW hH hj h3).2 rfl
  have ec:tuX (W:Int) (H:Int) (X:Int)=((X % W * H+H - 1 - X / W:Nat):Int):=by
   unfold tuX
   rw[<- Int.natCast_emod,<- Int.natCast_ediv,<- Int.natCast_mul]
   have:X / W<=H - 1:=by omega
   omega
  rw[ec]
  exact zog _ _ X (by rw[S.el];exact hj) (by rw[S.el];exact h3) hinv
 ·intro x d h
  obtain⟨X,D,rfl,rfl,hX,hD⟩:=nat x d h
  obtain⟨g1,g2,g3⟩:=geo X D hX hD
  obtain⟨a1,a2⟩:=zeS S (X:Int) (D:Int) (inX X hX) (by omega)
  obtain⟨b1,b2⟩:=zeS S' ((tuX W H) (X:Int)) (tuD (D:Int)) g1 (tar _)
  rw[a1,a2,b1,b2]
  refine⟨g2,fun c=>?_⟩
  rw[if_pos c] at g3
  exact g3
 ·intro x d h hno
  obtain⟨X,D,rfl,rfl,hX,hD⟩:=nat x d h
  obtain⟨g1,g2,g3⟩:=geo X D hX hD
  obtain⟨a1,a2⟩:=zeS S (X:Int) (D:Int) (inX X hX) (by omega)
  rw[a2] at hno
  rw[if_neg (by simp[hno])] at g3
  have hin:0<=zbR wd cs (X:Int) (D:Int)/\zbR wd cs (X:Int) (D:Int)<2 * ((W:Int)+(H:Int)):=by
   rcases zin S.ok h.1 h.2 with ⟨x2,d2,z,_⟩|⟨_,z⟩
   ·simp only at z
    rw[z] at a2
    rw[<- a2] at hno
    cases hno
   ·simp only at z
    unfold za7 at z
    split at z
    ·next y=>have:=y.2;rw[S.em] at this;exact this
    ·simp at z
  rw[zrI S _ hin,zcl S' _ _ g1 (tar _),zcl S _ _ (inX X hX) (by omega)]
  exact g3
theorem zll(S:Siz wd cs W H)(S':Siz (W:Int) (perm (zaN W) other cs) W H):Sym wd cs (W:Int) (perm (zaN W) other cs) (flX W) flD (zcz wd cs):=by
 have hW:=S.hW
 have hH:=S.hH
 have e1:(cs.length:Int)=(W:Int) * (H:Int):=by rw[S.el];simp
 have hWH:W * H<=25:=Nat.le_trans (Nat.mul_le_mul hW.2 hH.2) (by omega)
 have nat:∀ x d:Int,okS cs (x,d)->∃ X D:Nat,x=(X:Int)/\d=(D:Int)/\X<W * H/\D<4:=by
  intro x d h
  obtain⟨X,hX⟩:=Int.eq_ofNat_of_zero_le h.1.1
  obtain⟨D,hD⟩:=Int.eq_ofNat_of_zero_le h.2.1
  have h1:=h.1.2
  have h2:=h.2.2
  simp only at hX hD h1 h2
  have h3:X<W * H:=by rw[hX,S.el] at h1;exact_mod_cast h1
  exact⟨X,D,hX,hD,h3,by omega⟩
 have geo:=fun (X D:Nat) (h1:X<W * H) (h2:D<4)=>zsN ⟨W - 1,by omega⟩ ⟨H - 1,by omega⟩ ⟨X,by omega⟩ ⟨D,h2⟩ (by simp only[show W - 1+1=W by omega,show H - 1+1=H by omega];exact h1)
 simp only[show W - 1+1=W by omega,show H - 1+1=H by omega,wI] at geo
 have tar:∀ d:Int,0<=flD d/\flD d<=3:=fun d=>by unfold flD;omega
 have inX:∀ X:Nat,X<W * H->0<=(X:Int)/\(X:Int)<(W:Int) * (H:Int):=fun X h=>⟨by omega,by exact_mod_cast h⟩
 refine⟨?_,?_,?_,zsM⟩
 ·intro x hx
  obtain⟨X,hX⟩:=Int.eq_ofNat_of_zero_le hx.1
  have h3:X<W * H:=by have:=hx.2;rw[hX,S.el] at this;exact_mod_cast this
  subst hX
  have hmod:(W * H) % W=0:=Nat.mul_mod_right W H
  obtain⟨hj,_,hmd⟩:=zeK W X (W * H) hW hmod h3
  have hinv:=(zfw W (X / W * W+W - 1 - X % W) X (W * H) hW hmod hj h3).2 rfl
  have ec:flX (W:Int) (X:Int)=((X / W * W+W - 1 - X % W:Nat):Int):=by
   unfold flX
   rw[<- Int.natCast_emod,<- Int.natCast_ediv,<- Int.natCast_mul]
   have:X % W<=W - 1:=by omega
   omega
  rw[ec]
  exact zog _ _ X (by rw[S.el];exact hj) (by rw[S.el];exact h3) hinv
 ·intro x d h
  obtain⟨X,D,rfl,rfl,hX,hD⟩:=nat x d h
  obtain⟨g1,g2,g3⟩:=geo X D hX hD
  obtain⟨a1,a2⟩:=zeS S (X:Int) (D:Int) (inX X hX) (by omega)
  obtain⟨b1,b2⟩:=zeS S' ((flX W) (X:Int)) (flD (D:Int)) g1 (tar _)
  rw[a1,a2,b1,b2]
  refine⟨g2,fun c=>?_⟩
  rw[if_pos c] at g3
  exact g3
 ·intro x d h hno
  obtain⟨X,D,rfl,rfl,hX,hD⟩:=nat x d h
  obtain⟨g1,g2,g3⟩:=geo X D hX hD
  obtain⟨a1,a2⟩:=zeS S (X:Int) (D:Int) (inX X hX) (by omega)
  rw[a2] at hno
  rw[if_neg (by simp[hno])] at g3
  have hin:0<=zbR wd cs (X:Int) (D:Int)/\zbR wd cs (X:Int) (D:Int)<2 * ((W:Int)+(H:Int)):=by
   rcases zin S.ok h.1 h.2 with ⟨x2,d2,z,_⟩|⟨_,z⟩
   ·simp only at z
    rw[z] at a2
    rw[<- a2] at hno
    cases hno
   ·simp only at z
    unfold za7 at z
    split at z
    ·next y=>have:=y.2;rw[S.em] at this;exact this
    ·simp at z
  rw[zrs S _ hin,zcl S' _ _ g1 (tar _),zcl S _ _ (inX X hX) (by omega)]
  exact g3
