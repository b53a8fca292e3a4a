/- Of the proof: PJb -/
import Derived.Laws.EntriesVeiled
import Derived.Deep.RegionHeld3
import Derived.BigQuiet
import Derived.Deep.DeepCutAuto
import Derived.Test.YtdhopelplokehaaGreatDAc
set_option linter.unusedVariables false
namespace Go.Proofs.YtdhopelplokehaaGreat
namespace Sp
open Go.RowKit
def dRow (d:Int):Int:=if d=0 then -1 else if d=2 then 1 else 0
def dCol (d:Int):Int:=if d=1 then 1 else if d=3 then -1 else 0
def inG (r c W H:Int):Bool:=decide (0<=r/\r < H/\0<=c/\c < W)
end Sp
namespace Sp
open Go.RowKit
def rayN (wd:Int) (cs:List (Int × Int)) (x d:Int):Int × Int × Bool :=
 if okG wd cs=true/\(0<=x/\x < cs.length)/\(0<=d/\d<=3)/\inG (x / wd + dRow d) (x % wd + dCol d) wd ((cs.length:Int) / wd)=true then ((x / wd + dRow d) * wd + (x % wd + dCol d),d,true) else (0,0,false)
def rayV (p:Int × Int × Bool):Value:=.tuple #[.agg #[.int .i64 p.1,.int .i64 p.2.1],.bool p.2.2]
theorem shapeG {wd:Int} {cs:List (Int × Int)} (h:okG wd cs=true):∃ W H:Nat,wd=(W:Int)/\1<=W/\W<=5/\1<=H/\H<=5/\cs.length=W * H/\cs.length / W=H/\(cs.length:Int) / (W:Int)=(H:Int)/\cs.length<=25:=by
 have hs:sizeG wd cs.length=true:=by unfold okG at h; simp only [Bool.and_eq_true] at h; exact h.1
 simp only [sizeG,decide_eq_true_eq] at hs
 obtain ⟨h1,h2,h3,h4,h5⟩:=hs
 obtain ⟨W,rfl⟩:∃ W:Nat,wd=(W:Int):=⟨wd.toNat,by omega⟩
 obtain ⟨H,eH⟩:∃ H:Nat,(cs.length:Int) / (W:Int)=(H:Int):=⟨((cs.length:Int) / (W:Int)).toNat,by omega⟩
 rw [eH] at h4 h5
 have e2:(cs.length:Int)=(W:Int) * (H:Int):=by
  have:=Int.mul_ediv_add_emod (cs.length:Int) (W:Int)
  rw [eH,h3] at this
  omega
 have e3:cs.length=W * H:=by exact_mod_cast e2
 refine ⟨W,H,rfl,by omega,by omega,by omega,by omega,e3,?_,eH,?_⟩
 ·rw [e3]; exact Nat.mul_div_cancel_left H (by omega)
 ·rw [e3]; exact Nat.le_trans (Nat.mul_le_mul (show W<=5 by omega) (show H<=5 by omega)) (by omega)
def SpotAt (w0 wc:World) (blk:Nat) (r c:Int):Prop:=w0.heap.size<=blk/\wc.cell? ⟨blk,0,none⟩=some (.int .i64 r)/\wc.cell? ⟨blk,1,none⟩=some (.int .i64 c)/\Below w0.heap.size w0 wc
theorem spot_new {w0 wa:World} (h:Below w0.heap.size w0 wa) (r c:Int):SpotAt w0 (wa.alloc (.cells #[.int .i64 r,.int .i64 c] 187)) wa.heap.size r c :=
 ⟨h.size,by simp [go_sem],by simp [go_sem],bcall h h.size ((Below.refl _ _).alloc (Nat.le_refl _) _)⟩
theorem spot_set {w0 wa:World} {blk:Nat} {u0 u1:Value} (h:Below w0.heap.size w0 wa) (h0:w0.heap.size<=blk) (z0:wa.cell? ⟨blk,0,none⟩=some u0) (z1:wa.cell? ⟨blk,1,none⟩=some u1) (r c:Int) :
  SpotAt w0 ((wa.setCell ⟨blk,0,none⟩ (.int .i64 r)).setCell ⟨blk,1,none⟩ (.int .i64 c)) blk r c:=by
 refine ⟨h0,?_,?_,(h.setCell (p:=⟨blk,0,none⟩) h0 _).setCell (p:=⟨blk,1,none⟩) h0 _⟩
 ·rw [World.cell?_setCell_other _ _ _ _ (by simp)]
  exact World.cell?_setCell_same _ _ _ z0
 ·exact World.cell?_setCell_same _ _ _ (by rw [World.cell?_setCell_other _ _ _ _ (by simp)]; exact z1)
end Sp
namespace Sp
open Go.RowKit
theorem place_div (W r c:Int) (hc:0<=c/\c < W):(r * W + c) / W=r/\(r * W + c) % W=c :=
 (Int.ediv_emod_unique (show (0:Int) < W by omega)).2 ⟨by rw [Int.mul_comm W r]; omega,hc.1,hc.2⟩
theorem place_in (W H r c:Int) (hr:0<=r/\r < H) (hc:0<=c/\c < W):0<=r * W + c/\r * W + c < W * H:=by
 have h1:0<=r * W:=Int.mul_nonneg hr.1 (by omega)
 have h2:(r + 1) * W<=H * W:=Int.mul_le_mul_of_nonneg_right (by omega) (by omega)
 rw [Int.add_mul,Int.one_mul,Int.mul_comm H W] at h2
 omega
structure Shape (wd:Int) (cs:List (Int × Int)) (W H:Int):Prop where
 ok:okG wd cs=true
 ew:wd=W
 hW:1<=W/\W<=5
 hH:1<=H/\H<=5
 el:(cs.length:Int)=W * H
 ed:(cs.length:Int) / wd=H
theorem shape_of {wd:Int} {cs:List (Int × Int)} (h:okG wd cs=true):∃ W H,Shape wd cs W H:=by
 obtain ⟨W,H,ew,h1,h2,h3,h4,el,hH,hHI,hn⟩:=shapeG h
 exact ⟨W,H,h,ew,by omega,by omega,by exact_mod_cast el,by rw [ew]; exact hHI⟩
theorem split_of {wd W H x:Int} {cs:List (Int × Int)} (S:Shape wd cs W H) (hx:0<=x/\x < cs.length):∃ r c,x=r * W + c/\(0<=r/\r < H)/\(0<=c/\c < W):=by
 have hW:=S.hW
 have e:=Int.mul_ediv_add_emod x W
 refine ⟨x / W,x % W,by rw [Int.mul_comm]; omega,⟨Int.ediv_nonneg hx.1 (by omega),Int.ediv_lt_of_lt_mul (by omega) ?_⟩,Int.emod_nonneg x (by omega),Int.emod_lt_of_pos x (by omega)⟩
 rw [Int.mul_comm,<- S.el]
 exact hx.2
theorem rayN_at {wd W H:Int} {cs:List (Int × Int)} (S:Shape wd cs W H) (r c d:Int) (hr:0<=r/\r < H) (hc:0<=c/\c < W) (hd:0<=d/\d<=3) :
  rayN wd cs (r * W + c) d=if inG (r + dRow d) (c + dCol d) W H=true then ((r + dRow d) * W + (c + dCol d),d,true) else (0,0,false):=by
 obtain ⟨q1,q2⟩:=place_div W r c hc
 have q3:=place_in W H r c hr hc
 unfold rayN
 rw [S.ed,S.ew,q1,q2]
 rw [S.el]
 have ok:=S.ok
 rw [S.ew] at ok
 by_cases k:inG (r + dRow d) (c + dCol d) W H=true
 ·rw [if_pos ⟨ok,q3,hd,k⟩,if_pos k]
 ·rw [if_neg (fun q=>k q.2.2.2),if_neg k]
theorem rayN_true {wd:Int} {cs:List (Int × Int)} {x d x2 d2:Int} (h:rayN wd cs x d=(x2,d2,true)):okG wd cs=true/\(0<=x/\x < (cs.length:Int))/\(0<=d/\d<=3)/\d2=d:=by
 unfold rayN at h
 split at h
 ·next k=>simp only [Prod.mk.injEq] at h; exact ⟨k.1,k.2.1,k.2.2.1,h.2.1.symm⟩
 ·simp at h
def stepD (d W:Int):Int:=if d=0 then -W else if d=1 then 1 else if d=2 then W else -1
theorem ray_back {wd:Int} {cs:List (Int × Int)} {x d x2 d2:Int} (h:rayN wd cs x d=(x2,d2,true)) :
  d2=d/\(0<=d/\d<=3)/\(0<=x/\x<=24)/\(0<=x2/\x2<=24)/\(1<=wd/\wd<=5)/\rayN wd cs x2 ((d + 2) % 4)=(x,(d + 2) % 4,true)/\x + stepD d wd=x2:=by
 obtain ⟨hok,hx,hd,e2⟩:=rayN_true h
 obtain ⟨W,H,S⟩:=shape_of hok
 obtain ⟨r,c,ex,hr,hc⟩:=split_of S hx
 have hW:=S.hW
 have hH:=S.hH
 have hl:(cs.length:Int)<=25:=by rw [S.el]; exact Int.le_trans (Int.mul_le_mul hW.2 hH.2 (by omega) (by omega)) (by omega)
 subst e2
 rw [ex,rayN_at S r c d2 hr hc hd] at h
 split at h
 ·next k =>
  simp only [inG,decide_eq_true_eq] at k
  simp only [Prod.mk.injEq,and_true] at h
  have k1:0<=r + dRow d2/\r + dRow d2 < H:=⟨k.1,k.2.1⟩
  have k2:0<=c + dCol d2/\c + dCol d2 < W:=k.2.2
  have q3:=place_in W H _ _ k1 k2
  rw [h,<- S.el] at q3
  have hd4:0<=(d2 + 2) % 4/\(d2 + 2) % 4<=3:=by omega
  refine ⟨rfl,hd,by omega,by omega,by have:=S.ew; omega,?_,?_⟩
  ·rw [<- h,rayN_at S _ _ _ k1 k2 hd4]
   have e1:r + dRow d2 + dRow ((d2 + 2) % 4)=r:=by
    rcases (show d2=0\/d2=1\/d2=2\/d2=3 by omega) with rfl | rfl | rfl | rfl <;> simp [dRow] <;> omega
   have e2:c + dCol d2 + dCol ((d2 + 2) % 4)=c:=by
    rcases (show d2=0\/d2=1\/d2=2\/d2=3 by omega) with rfl | rfl | rfl | rfl <;> simp [dCol] <;> omega
   rw [e1,e2,if_pos (by simp [inG]; omega),<- ex]
  ·rw [<- h,ex,S.ew]
   rcases (show d2=0\/d2=1\/d2=2\/d2=3 by omega) with rfl | rfl | rfl | rfl <;> simp [dRow,dCol,stepD,Int.add_mul] <;> omega
 ·simp at h
end Sp
end Go.Proofs.YtdhopelplokehaaGreat
