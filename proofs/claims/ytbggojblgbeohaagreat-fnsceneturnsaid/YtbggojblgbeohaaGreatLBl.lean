/- Part. -/
import Derived.Test.YtbggojblgbeohaaGreatLBk
set_option linter.unusedVariables false
namespace Go.Proofs.YtbggojblgbeohaaGreat
variable{arrF arrL:Array Value}{r:Ending}{wd:Int}{cs:List (Int × Int)}{B H M N W b c gc hi m:Nat}{l:Nat->Int}{cp n:Nat->Nat}{f:Nat->Nat->Int}{ad:Nat->Option Addr}{S:Nat->Prop}{xs:Nat->Value}{a fa ga la:Option Addr}{g:Option Nat}{v:Value}{w w' w0:World}
namespace Sp
variable{aLt:Nat->Func->Func}
open Go.RowKit
attribute [local go_sem ↓] Go.wp_at_zero Go.wp_at_succ
def RI(w:World)(a:Option Addr)(m:Nat)(f:Nat->Int):Prop:=m=0\/∃ g,a=some ⟨g,0,none⟩/\g<w.heap.size/\∀ j,j<m->w.cell? ⟨g,j,none⟩=some (.int .i64 (f j))/\w.frozen? ⟨g,j,none⟩=false
theorem RI.below{f:Nat->Int}(h:RI w a m f)(hb:Below w.heap.size w w'):RI w' a m f:=by
 rcases h with h|⟨g,e,hg,hc⟩
 ·exact Or.inl h
 ·exact Or.inr ⟨g,e,nll hg hb.size,fun j hj=>⟨zab hb (hc j hj).1,zaj hb (hc j hj).1 (hc j hj).2⟩⟩
theorem RI.like{f f':Nat->Int}(h:RI w a m f)(e:∀ j,j<m->f' j=f j):RI w a m f':=by
 rcases h with h|⟨g,e1,hl,hc⟩
 ·exact Or.inl h
 ·exact Or.inr ⟨g,e1,hl,fun j hj=>by rw[e j hj];exact hc j hj⟩
theorem RI.at{f:Nat->Int}(h:RI w a m f)(hm:0<m):∃ g,a=some ⟨g,0,none⟩/\g<w.heap.size/\∀ j,j<m->w.cell? ⟨g,j,none⟩=some (.int .i64 (f j))/\w.frozen? ⟨g,j,none⟩=false:=by
 rcases h with h|h
 ·omega
 ·exact h
structure zhd(S:Nat->Prop)(w w':World):Prop where
 os:w'.os=w.os
 tape:w'.tape=w.tape
 output:w'.output=w.output
 size:w.heap.size<=w'.heap.size
 block:∀ k,k<w.heap.size->¬ S k->w'.heap[k]?=w.heap[k]?
theorem zhd.refl(S:Nat->Prop)(w:World):zhd S w w:=⟨rfl,rfl,rfl,Nat.le_refl _,fun _ _ _=>rfl⟩
theorem zhd.grown{w1 w2:World}(h:zhd S w w1)(hg:w1.grownBy w2 g)(hs:∀ b,g=some b->S b):zhd S w w2 :=
 ⟨hg.os.trans h.os,hg.tape.trans h.tape,hg.output.trans h.output,Nat.le_trans h.size hg.size,fun k hk hn=>(hg.block k (nll hk h.size) (fun e=>hn (hs k e.symm))).trans (h.block k hk hn)⟩
theorem zhd.cell(h:zhd S w w'){o:Nat}(hg:¬ S b)(hc:w.cell? ⟨b,o,none⟩=some v):w'.cell? ⟨b,o,none⟩=some v:=by
 rw[World.cell?_of_block (w:=w) (h.block b (World.block_lt_of_cell? w _ hc) hg)]
 exact hc
theorem zhd.below(h:zhd S w w')(hb:Below B w0 w)(hS:∀ e,S e->B<=e)(hz:B<=w.heap.size):Below B w0 w' :=
 ⟨h.os.trans hb.os,h.tape.trans hb.tape,h.output.trans hb.output,Nat.le_trans hb.size h.size,fun k hk=>(h.block k (by omega) (fun q=>by have:=hS k q;omega)).trans (hb.block k hk)⟩
theorem RI.offN{f:Nat->Int}(h:RI w a m f)(ho:zhd S w w')(hn:∀ x,a=some x->¬ S x.block):RI w' a m f:=by
 rcases h with h|⟨g,rfl,hl,hc⟩
 ·exact .inl h
 ·have q:=hn _ rfl
  exact .inr ⟨g,rfl,nll hl ho.size,fun j hj=>⟨ho.cell q (hc j hj).1,by rw[World.frozen?_of_block (w:=w) (ho.block g hl q)];exact(hc j hj).2⟩⟩
structure zpH(w:World)(lo hi b M:Nat)(ad:Nat->Option Addr)(n cp:Nat->Nat)(f:Nat->Nat->Int):Prop where
 out:lo<=b/\b<hi
 cell:∀ k,k<M->w.cell? ⟨b,k,none⟩=some (.slice (ad k) (n k) (cp k))
 row:∀ k,k<M->RI w (ad k) (n k * 1) (f k)
 lt:∀ k x,k<M->ad k=some x->(lo<=x.block/\x.block<hi)/\¬ x.block=b
 inj:∀ k k' x x',k<M->k'<M->ad k=some x->ad k'=some x'->x.block=x'.block->k=k'
 top:hi<=w.heap.size
def zgZ(w:World)(lo hi:Nat)(a:Option Addr)(M:Nat)(ad:Nat->Option Addr)(n cp:Nat->Nat)(f:Nat->Nat->Int):Prop:=M=0\/∃ b,a=some ⟨b,0,none⟩/\zpH w lo hi b M ad n cp f
theorem zpH.below{lo:Nat}(h:zpH w lo hi b M ad n cp f)(hb:Below w.heap.size w w'):zpH w' lo hi b M ad n cp f :=
 ⟨h.out,fun k hk=>zab hb (h.cell k hk),fun k hk=>(h.row k hk).below hb,h.lt,h.inj,Nat.le_trans h.top hb.size⟩
theorem zgZ.below{lo:Nat}(h:zgZ w lo hi a M ad n cp f)(hb:Below w.heap.size w w'):zgZ w' lo hi a M ad n cp f:=by
 rcases h with h|⟨b,e,h⟩
 ·exact .inl h
 ·exact .inr ⟨b,e,h.below hb⟩
theorem zgZ.off{lo:Nat}(h:zgZ w lo hi a M ad n cp f)(ho:zhd S w w')(hS:∀ e,lo<=e->e<hi->¬ S e):zgZ w' lo hi a M ad n cp f:=by
 rcases h with h|⟨b,e,h⟩
 ·exact .inl h
 ·exact .inr ⟨b,e,h.out,fun k hk=>ho.cell (hS b h.out.1 h.out.2) (h.cell k hk),fun k hk=>(h.row k hk).offN ho (fun x q=>hS _ (h.lt k x hk q).1.1 (h.lt k x hk q).1.2),h.lt,h.inj,Nat.le_trans h.top ho.size⟩
def zfQ(M:Nat)(ad:Nat->Option Addr)(e:Nat):Prop:=∃ k x,k<M/\ad k=some x/\e=x.block
end Sp
namespace Sp
variable{aLt:Nat->Func->Func}
open Go.RowKit
def marks(k:Int)(n:Nat):List (Int × Int):=(List.range n).map fun (i:Nat)=>(k+2 * (i:Int),k+2 * (i:Int)+1)
theorem Own.range(h:Own w B v cs):∀ k,v.ownBlock=some k->B<=k/\k<w.heap.size:=World.ownsRow.lt h
end Sp
namespace Sp
open Go.RowKit
attribute [local go_sem ↓] Go.wp_at_zero Go.wp_at_succ
theorem zr7(o o2:Obj)(w:World):zdw w ((w.alloc o).alloc o2) [(w.heap.size+1,o2),(w.heap.size,o)]:=by
 have h1:zdw w w []:=⟨Below.refl _ _,(fun _ h=>nomatch h),List.nodup_nil⟩
 have h2:=(h1.made o).made o2
 have e:(w.alloc o).heap.size=w.heap.size+1:=Array.size_push _
 rw[e] at h2
 exact h2
theorem zhd.trans{w1 w2:World}(h:zhd S w w1)(h2:zhd S w1 w2):zhd S w w2:=⟨h2.os.trans h.os,h2.tape.trans h.tape,h2.output.trans h.output,Nat.le_trans h.size h2.size,fun k hk hn=>(h2.block k (nll hk h.size) hn).trans (h.block k hk hn)⟩
theorem zhd.of(h:Below w.heap.size w w'):zhd S w w':=⟨h.os,h.tape,h.output,h.size,fun k hk _=>h.block k hk⟩
theorem zqz(h:Own w B v cs)(ho:zhd S w w')(hn:∀ b,v.ownBlock=some b->¬ S b):Own w' B v cs:=by
 obtain⟨h1,h2⟩:=h
 refine⟨h1,?_⟩
 rcases h2 with h2|⟨g,cp,cur,q1,q2,q3,q4⟩
 ·exact .inl h2
 ·exact .inr ⟨g,cp,cur,q1,q2,(ho.block g (gei q3).1 (hn g (by rw[q1];rfl))).trans q3,q4⟩
def zcE(a:Option Addr)(e:Nat):Prop:=∃ x,a=some x/\e=x.block
theorem zlq{n:Nat}(h:(Value.slice a n c).ownBlock=some b):zcE a b:=by
 rcases a with _|x
 ·exact absurd h (by simp[Value.ownBlock])
 ·simp only[Value.ownBlock,Option.some.injEq] at h
  exact⟨x,rfl,h.symm⟩
structure ziI(sz:Nat)(ga la fa:Option Addr)(M:Nat)(ad:Nat->Option Addr):Prop where
 gl:∀ e,zcE ga e->¬ zcE la e
 gf:∀ e,zcE ga e->¬ zcE fa e
 gr:∀ e,zcE ga e->¬ zfQ M ad e
 lf:∀ e,zcE la e->¬ zcE fa e
 lr:∀ e,zcE la e->¬ zfQ M ad e
 lt:∀ e,zcE ga e\/zcE la e\/zfQ M ad e->e<sz
end Sp
namespace Sp
open Go.RowKit
theorem zjt{xs:List Int}(h:zdH w B 3 v xs):zlb w B v xs:=by
 refine⟨by simp[zfl],?_⟩
 rcases h with ⟨h1,h2⟩|⟨g,cap,h1,h2,h3,h4,h5,h6⟩
 ·exact .inl ⟨h1,by rw[h2];rfl⟩
 ·refine .inr ⟨g,cap,zgV xs cap,h1,h2,h6,h4,h5,by rw[zgT xs cap h4,Nat.mul_one],?_⟩
  rw[Nat.mul_one]
  have e:(zgV xs cap).toList=zfl xs++List.replicate (cap - xs.length) (.int .i64 0):=by simp[zgV,zed,zfl]
  rw[e,List.take_append_of_le_length (by simp[zfl])]
  rw[List.take_of_length_le (by simp[zfl])]
theorem zoO{xs:List Int}(h:zlb w B v xs):∃ a c,v=.slice a xs.length c/\RI w a (xs.length * 1) (fun i=>xs.getD i 0)/\∀ x,a=some x->v.ownBlock=some x.block:=by
 obtain⟨h1,h2⟩:=h
 rcases h2 with ⟨q1,q2⟩|⟨g,cap,cur,q1,q2,q3,q4,q5,q6,q7⟩
 ·exact⟨none,0,by rw[q1,q2],.inl (by omega),fun x e=>by cases e⟩
 ·refine⟨_,cap,q1,.inr ⟨g,rfl,(gei q3).1,fun j hj=>⟨?_,frozen_of_row _ _ j _ _ q3⟩⟩,fun x e=>by rw[q1];cases e;rfl⟩
  have hj':j<xs.length:=by omega
  have e:(cur.toList.take (xs.length * 1))[j]?=(zfl xs)[j]?:=by rw[q7]
  rw[List.getElem?_take_of_lt hj,Array.getElem?_toList] at e
  rw[cell_of_row _ _ j _ _ _ q3,e]
  simp[zfl,hj']
theorem ScA.toS{bl bf k:Nat}(h:ScA w0 w wd cs M gc bl bf k arrL arrF xs):ScS w0 w wd cs M gc cs.length bl bf k arrL arrF xs:=by
 have hlt:=h.lt
 exact⟨h.below,h.grid,h.lights,h.feet,h.sizeL,h.sizeF,h.atL,h.atF,by omega,fun j hj=>zjt (h.row j hj),fun j hj b hb=>by have:=h.apart j hj b hb;omega,h.once⟩
def zsA:Value->Option Addr
 | .slice a _ _=>a
 | _=>none
def zts(w:World)(wd:Int)(cs:List (Int × Int))(M:Nat)(l:Nat->Int)(n:Nat->Nat)(f:Nat->Nat->Int)(ok:Bool)(r:Ending)(w':World):Prop :=
 ∃ ga la fa gc lc fc ad cp,r=.returned (.tuple #[.agg #[.int .i64 wd,.slice ga cs.length gc,.slice la M lc,.slice fa M fc],.bool ok])/\Own w' w.heap.size (.slice ga cs.length gc) cs/\RI w' la (M * 1) l/\zgZ w' w.heap.size w'.heap.size fa M ad n cp f/\ziI w'.heap.size ga la fa M ad/\(∀ e,zcE ga e\/zcE la e\/zcE fa e\/zfQ M ad e->w.heap.size<=e)/\Below w.heap.size w w'
theorem zaV{e:Nat}(h:zcE (some ⟨b,0,none⟩) e):e=b:=by
 obtain⟨x,h1,h2⟩:=h
 cases h1
 exact h2
theorem zrp(hr:r=.returned (.tuple #[.agg #[.int .i64 0,.slice none 0 0,.slice none 0 0,.slice none 0 0],.bool false]))(hb:Below w.heap.size w w'):zts w 0 [] 0 l n f false r w':=by
 have h0:∀ e,¬ zcE none e:=fun e ⟨x,h,_⟩=>by cases h
 have h1:∀ e,¬ zfQ 0 (fun _=>none) e:=fun e ⟨k,x,h,_⟩=>by omega
 exact⟨none,none,none,0,0,0,fun _=>none,fun _=>0,hr,⟨rfl,.inl ⟨rfl,rfl⟩⟩,.inl rfl,.inl rfl,⟨fun e h=>absurd h (h0 e),fun e h=>absurd h (h0 e),fun e h=>absurd h (h0 e),fun e h=>absurd h (h0 e),fun e h=>absurd h (h0 e),fun e h=>by rcases h with h|h|h;exact absurd h (h0 e);exact absurd h (h0 e);exact absurd h (h1 e)⟩,fun e h=>by rcases h with h|h|h|h;exact absurd h (h0 e);exact absurd h (h0 e);exact absurd h (h0 e);exact absurd h (h1 e),hb⟩
theorem zns{bl bf:Nat}(h:ScS w w' wd cs M gc c bl bf M arrL arrF xs)(hr:r=.returned (.tuple #[.agg #[.int .i64 wd,.slice (some ⟨gc,0,none⟩) cs.length c,.slice (some ⟨bl,0,none⟩) M M,.slice (some ⟨bf,0,none⟩) M M],.bool true])) :
  zts w wd cs M (fun j=>zaJ wd cs (j:Int)) (fun j=>(zaM wd cs (j:Int)).length) (fun j i=>(zaM wd cs (j:Int)).getD i 0) true r w':=by
 have hx:∀ j,j<M->xs j=.slice (zsA (xs j)) (zaM wd cs (j:Int)).length (zbU (xs j))/\RI w' (zsA (xs j)) ((zaM wd cs (j:Int)).length * 1) (fun i=>(zaM wd cs (j:Int)).getD i 0)/\∀ x,zsA (xs j)=some x->(xs j).ownBlock=some x.block:=fun j hj=>by
  obtain⟨a,c,h1,h2,h3⟩:=zoO (h.row j hj)
  rw[h1] at h3 ⊢
  exact⟨rfl,h2,h3⟩
 have hblk:∀ j x,j<M->zsA (xs j)=some x->(w.heap.size<=x.block/\x.block<w'.heap.size)/\(x.block≠gc/\x.block≠bl/\x.block≠bf):=fun j x hj q=>⟨World.ownsRow.lt (h.row j hj) x.block ((hx j hj).2.2 x q),h.apart j hj x.block ((hx j hj).2.2 x q)⟩
 have hrow:∀ e,zfQ M (fun j=>zsA (xs j)) e->(w.heap.size<=e/\e<w'.heap.size)/\(e≠gc/\e≠bl/\e≠bf):=fun e ⟨k,x,q1,q2,q3⟩=>by rw[q3];exact hblk k x q1 q2
 have hlt:=h.lt
 have hgl:=(World.ownsRow.lt h.grid gc rfl).2
 have hbl:=(gei h.lights).1
 have hbf:=(gei h.feet).1
 refine⟨some ⟨gc,0,none⟩,some ⟨bl,0,none⟩,some ⟨bf,0,none⟩,c,M,M,fun j=>zsA (xs j),fun j=>zbU (xs j),hr,h.grid,.inr ⟨bl,rfl,hbl,fun j hj=>⟨?_,frozen_of_row _ _ j _ _ h.lights⟩⟩,.inr ⟨bf,rfl,⟨hlt.1.2.2,hbf⟩,fun k hk=>?_,fun k hk=>(hx k hk).2.1,fun k x hk q=>⟨(hblk k x hk q).1,(hblk k x hk q).2.2.2⟩,fun k k' x x' hk hk' q q' e=>?_,Nat.le_refl _⟩,⟨?_,?_,?_,?_,?_,?_⟩,?_,h.below⟩
 ·rw[cell_of_row _ _ j _ _ _ h.lights,h.atL j (by omega)]
 ·rw[cell_of_row _ _ k _ _ _ h.feet,h.atF k hk]
  exact congrArg some (hx k hk).1
 ·have q1:=(hx k hk).2.2 x q
  have q2:=(hx k' hk').2.2 x' q'
  rw[<- e] at q2
  exact h.inj k k' x.block hk hk' q1 q2
 ·intro e q q'
  have:=zaV q;have:=zaV q';omega
 ·intro e q q'
  have:=zaV q;have:=zaV q';omega
 ·intro e q q'
  have:=zaV q;have:=(hrow e q').2.1;omega
 ·intro e q q'
  have:=zaV q;have:=zaV q';omega
 ·intro e q q'
  have:=zaV q;have:=(hrow e q').2.2.1;omega
 ·rintro e (q|q|q)
  ·have:=zaV q;omega
  ·have:=zaV q;omega
  ·exact(hrow e q).1.2
 ·rintro e (q|q|q|q)
  ·have:=zaV q;omega
  ·have:=zaV q;omega
  ·have:=zaV q;omega
  ·exact(hrow e q).1.1
end Sp
namespace Sp
open Go.RowKit
attribute [local go_sem ↓] Go.wp_at_zero Go.wp_at_succ
theorem zlI(h:Own w B (.slice a N c) cs):zai w a cs:=by
 obtain⟨a2,c2,e,hC⟩:=h.slice
 simp only[Value.slice.injEq] at e
 obtain⟨rfl,_,rfl⟩:=e
 exact hC
structure Sn(w:World)(B hi N:Nat)(cs:List (Int × Int))(M:Nat)(l:Nat->Int)(n:Nat->Nat)(f:Nat->Nat->Int)(ga la fa:Option Addr)(gc:Nat)(ad:Nat->Option Addr)(cp:Nat->Nat):Prop where
 own:Own w B (.slice ga N gc) cs
 li:RI w la (M * 1) l
 feet:zgZ w B hi fa M ad n cp f
 ap:ziI hi ga la fa M ad
 lo:∀ e,zcE ga e\/zcE la e\/zcE fa e\/zfQ M ad e->B<=e
 top:hi<=w.heap.size
theorem Sn.off(h:Sn w B hi N cs M l n f ga la fa gc ad cp)(ho:zhd S w w')(hS:∀ e,B<=e->e<hi->¬ S e):Sn w' B hi N cs M l n f ga la fa gc ad cp :=
 ⟨zqz h.own ho (fun b hb=>hS b (h.lo b (.inl (zlq hb))) (h.ap.lt b (.inl (zlq hb)))),h.li.offN ho (fun x e=>hS _ (h.lo _ (.inr (.inl ⟨x,e,rfl⟩))) (h.ap.lt _ (.inr (.inl ⟨x,e,rfl⟩)))),h.feet.off ho hS,h.ap,h.lo,Nat.le_trans h.top ho.size⟩
theorem Sn.below(h:Sn w B hi N cs M l n f ga la fa gc ad cp)(hb:Below w.heap.size w w'):Sn w' B hi N cs M l n f ga la fa gc ad cp :=
 h.off (S:=fun _=>False) (zhd.of hb) (fun _ _ _=>id)
theorem ziI.mono{sz sz':Nat}(h:ziI sz ga la fa M ad)(hz:sz<=sz'):ziI sz' ga la fa M ad :=
 ⟨h.gl,h.gf,h.gr,h.lf,h.lr,fun e q=>nll (h.lt e q) hz⟩
def zsC(w:World)(wd:Int)(N:Nat)(cs:List (Int × Int))(M:Nat)(l:Nat->Int)(n:Nat->Nat)(f:Nat->Nat->Int)(ok:Bool)(r:Ending)(w':World):Prop :=
 ∃ ga la fa gc lc fc ad cp,r=.returned (.tuple #[.agg #[.int .i64 wd,.slice ga N gc,.slice la M lc,.slice fa M fc],.bool ok])/\Sn w' w.heap.size w'.heap.size N cs M l n f ga la fa gc ad cp/\Below w.heap.size w w'
theorem zhO{ok:Bool}(h:zts w wd cs M l n f ok r w')(hN:cs.length=N):zsC w wd N cs M l n f ok r w':=by
 subst hN
 obtain⟨ga,la,fa,gc,lc,fc,ad,cp,h1,h2,h3,h4,h5,h6,h7⟩:=h
 exact⟨ga,la,fa,gc,lc,fc,ad,cp,h1,⟨h2,h3,h4,h5,h6,Nat.le_refl _⟩,h7⟩
theorem zsB(w:World)(v0 v1 v2 v3:Value)(t:TypeId):(w.alloc (.cells #[v0,v1,v2,v3] t)).cell? ⟨w.heap.size,0,none⟩=some v0/\(w.alloc (.cells #[v0,v1,v2,v3] t)).cell? ⟨w.heap.size,1,none⟩=some v1/\(w.alloc (.cells #[v0,v1,v2,v3] t)).cell? ⟨w.heap.size,2,none⟩=some v2/\(w.alloc (.cells #[v0,v1,v2,v3] t)).cell? ⟨w.heap.size,3,none⟩=some v3:=by
 refine⟨?_,?_,?_,?_⟩ <;> simp[go_sem]
end Sp
namespace Sp
open Go.RowKit
theorem zo0(S:Siz wd cs W H):(cs.length<=25/\0<cs.length)/\2 * (W+H)<=20:=by
 have:=S.hW;have:=S.hH
 exact⟨⟨by rw[S.el];exact Nat.le_trans (Nat.mul_le_mul S.hW.2 S.hH.2) (by omega),by rw[S.el];exact Nat.mul_pos (by omega) (by omega)⟩,by omega⟩
theorem zgf(S:Siz wd cs W H)(hM:2 * (W+H)=M)(hN:cs.length=N)(a:Option Addr)(cap:Nat)(w:World)(h:zai w a cs):Calls SqP.prog 6 #[.agg #[.int .i64 wd,.slice a cs.length cap]] w (zsC w wd N cs M (fun j=>zaJ wd cs (j:Int)) (fun j=>(zaM wd cs (j:Int)).length) (fun j i=>(zaM wd cs (j:Int)).getD i 0) true):=by
 obtain⟨⟨h1,h2⟩,h3⟩:=zo0 S
 subst hM
 exact(zoT wd a cap cs w h h1 h2 S.ok (2 * (W+H)) (by rw[S.em];omega) h3).mono fun e w' ⟨gc,bl,bf,arrL,arrF,xs,q1,q2⟩=>zhO (zns q2.toS q1) hN
theorem zo4(S:Siz wd cs W H)(hM:2 * (W+H)=M)(hN:cs.length=N)(a:Option Addr)(cap:Nat)(w:World)(h:zai w a cs):Calls SqP.prog 5 #[.agg #[.int .i64 wd,.slice a cs.length cap]] w (zsC w wd N cs M (fun j=>zaJ wd cs (j:Int)) (fun j=>(zaM wd cs (j:Int)).length) (fun j i=>(zaM wd cs (j:Int)).getD i 0) true):=by
 subst hM
 exact(zfq S a cap w h).mono fun e w' ⟨gc,c,bl,bf,arrL,arrF,xs,q1,q2⟩=>zhO (zns q2 q1) hN
theorem zqc(hk:okG wd cs=false)(hm:cs.length<=1048576)(a:Option Addr)(cap:Nat)(w:World)(h:zai w a cs):Calls SqP.prog 6 #[.agg #[.int .i64 wd,.slice a cs.length cap]] w (zsC w 0 0 [] 0 (fun _=>0) (fun _=>0) (fun _ _=>0) false) :=
 (zlS wd a cap cs w h (by omega) hk).mono fun e w' q=>zhO (zrp q.1 q.2) rfl
theorem zqN(hk:okG wd cs=false)(hm:cs.length<=1048576)(a:Option Addr)(cap:Nat)(w:World)(h:zai w a cs):Calls SqP.prog 5 #[.agg #[.int .i64 wd,.slice a cs.length cap]] w (zsC w 0 0 [] 0 (fun _=>0) (fun _=>0) (fun _ _=>0) false) :=
 (zgu wd a cap cs w h hm hk).mono fun e w' q=>zhO (zrp q.1 q.2) rfl
