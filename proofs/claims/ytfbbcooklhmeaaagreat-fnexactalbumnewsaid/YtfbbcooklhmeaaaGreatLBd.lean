/- Of the proof: PFu -/
import Derived.Test.YtfbbcooklhmeaaaGreatLBc
set_option maxHeartbeats 1000000
set_option linter.unusedVariables false
namespace Go.Proofs.YtfbbcooklhmeaaaGreat
variable {M hi lo:Nat} {cp n:Nat->Nat} {f:Nat->Nat->Int} {ad:Nat->Option Addr} {S:Nat->Prop} {a:Option Addr} {g:Option Nat} {w w':World}
namespace Sp
variable {aLt:Nat->Func->Func}
open Go.RowKit
attribute [local go_sem ↓] Go.wp_at_zero Go.wp_at_succ
def zb1 (n:Nat->Nat):Nat->Nat
 | 0=>0
 | i + 1=>zb1 n i + n i
theorem zhq {n:Nat->Nat} {M:Nat} (h:∀ k,k < M->n k<=1000):∀ i,i<=M->zb1 n i<=i * 1000
 | 0,_=>by simp [zb1]
 | i + 1,hi=>by
  have:=zhq h i (by omega)
  have:=h i (by omega)
  simp only [zb1]
  omega
structure zbn (S:Nat->Prop) (w w':World):Prop where
 os:w'.os=w.os
 tape:w'.tape=w.tape
 output:w'.output=w.output
 size:w.heap.size<=w'.heap.size
 block:∀ k,k < w.heap.size->¬ S k->w'.heap[k]?=w.heap[k]?
theorem zbn.refl (S:Nat->Prop) (w:World):zbn S w w:=⟨rfl,rfl,rfl,Nat.le_refl _,fun _ _ _=>rfl⟩
theorem zbn.grown {w1 w2:World} (h:zbn S w w1) (hg:w1.grownBy w2 g) (hs:∀ b,g=some b->S b):zbn S w w2 :=
 ⟨hg.os.trans h.os,hg.tape.trans h.tape,hg.output.trans h.output,Nat.le_trans h.size hg.size,fun k hk hn=>(hg.block k (nll hk h.size) (fun e=>hn (hs k e.symm))).trans (h.block k hk hn)⟩
theorem zbn.cell (h:zbn S w w') {b o:Nat} {v:Value} (hg:¬ S b) (hc:w.cell? ⟨b,o,none⟩=some v):w'.cell? ⟨b,o,none⟩=some v:=by
 rw [World.cell?_of_block (w:=w) (h.block b (World.block_lt_of_cell? w _ hc) hg)]
 exact hc
theorem zbn.below {w0:World} {B:Nat} (h:zbn S w w') (hb:Below B w0 w) (hS:∀ e,S e->B<=e) (hz:B<=w.heap.size):Below B w0 w' :=
 ⟨h.os.trans hb.os,h.tape.trans hb.tape,h.output.trans hb.output,Nat.le_trans hb.size h.size,fun k hk=>(h.block k (by omega) (fun q=>by have:=hS k q; omega)).trans (hb.block k hk)⟩
theorem RI.offN {m:Nat} {f:Nat->Int} (h:RI w a m f) (ho:zbn S w w') (hn:∀ x,a=some x->¬ S x.block):RI w' a m f:=by
 rcases h with h | ⟨g,rfl,hl,hc⟩
 ·exact .inl h
 ·have q:=hn _ rfl
  exact .inr ⟨g,rfl,nll hl ho.size,fun j hj=>⟨ho.cell q (hc j hj).1,by rw [World.frozen?_of_block (w:=w) (ho.block g hl q)]; exact (hc j hj).2⟩⟩
structure zlK (w:World) (lo hi b M:Nat) (ad:Nat->Option Addr) (n cp:Nat->Nat) (f:Nat->Nat->Int):Prop where
 out:lo<=b/\b < hi
 cell:∀ k,k < M->w.cell? ⟨b,k,none⟩=some (.slice (ad k) (n k) (cp k))
 row:∀ k,k < M->RI w (ad k) (n k * 1) (f k)
 lt:∀ k x,k < M->ad k=some x->(lo<=x.block/\x.block < hi)/\¬ x.block=b
 inj:∀ k k' x x',k < M->k' < M->ad k=some x->ad k'=some x'->x.block=x'.block->k=k'
 top:hi<=w.heap.size
def zba (w:World) (lo hi:Nat) (a:Option Addr) (M:Nat) (ad:Nat->Option Addr) (n cp:Nat->Nat) (f:Nat->Nat->Int):Prop:=M=0\/∃ b,a=some ⟨b,0,none⟩/\zlK w lo hi b M ad n cp f
theorem zlK.below {b:Nat} (h:zlK w lo hi b M ad n cp f) (hb:Below w.heap.size w w'):zlK w' lo hi b M ad n cp f :=
 ⟨h.out,fun k hk=>zab hb (h.cell k hk),fun k hk=>(h.row k hk).below hb,h.lt,h.inj,Nat.le_trans h.top hb.size⟩
theorem zba.below (h:zba w lo hi a M ad n cp f) (hb:Below w.heap.size w w'):zba w' lo hi a M ad n cp f:=by
 rcases h with h | ⟨b,e,h⟩
 ·exact .inl h
 ·exact .inr ⟨b,e,h.below hb⟩
theorem zba.off (h:zba w lo hi a M ad n cp f) (ho:zbn S w w') (hS:∀ e,lo<=e->e < hi->¬ S e):zba w' lo hi a M ad n cp f:=by
 rcases h with h | ⟨b,e,h⟩
 ·exact .inl h
 ·exact .inr ⟨b,e,h.out,fun k hk=>ho.cell (hS b h.out.1 h.out.2) (h.cell k hk),fun k hk=>(h.row k hk).offN ho (fun x q=>hS _ (h.lt k x hk q).1.1 (h.lt k x hk q).1.2),h.lt,h.inj,Nat.le_trans h.top ho.size⟩
theorem zl5 (a a2:Option Addr) (c c2 M lo hi lo2 hi2:Nat) (ad ad2:Nat->Option Addr) (n cp cp2:Nat->Nat) (f:Nat->Nat->Int) (w:World) (h:zba w lo hi a M ad n cp f) (h2:zba w lo2 hi2 a2 M ad2 n cp2 f) (hm:M<=1048576) (hn:∀ k,k < M->n k<=1000) :
  Calls (SqG.prog aLt) 36 #[.slice a M c,.slice a2 M c2] w fun e w'=>e=.returned (.bool true)/\Below w.heap.size w w':=by
 have bl:((M:Int) != (M:Int))=false:=by simp
 go_enter SqG.func36,Tryz.ntmps36
 go_wp2_with fail
 go_loopw [5] (fun ii wr=>∃ i:Nat,i<=M/\ii=.int .i64 i/\Below w.heap.size w wr) (fun ii _=>M - (intOf ii).toNat)
 case atStart=>exact ⟨0,Nat.zero_le _,rfl,Below.refl _ _⟩
 case round =>
  rename World=>wo
  obtain ⟨i,hi,rfl,hb⟩:=hrel
  have hzo:=hb.size
  by_cases hlt:i < M
  ·rcases h.below hb with q | ⟨b,rfl,hy⟩
   ·omega
   rcases h2.below hb with q | ⟨b2,rfl,hy2⟩
   ·omega
   have x0:=hy.cell i hlt
   have r0:=hy.row i hlt
   have y0:=hy2.cell i hlt
   have r2:=hy2.row i hlt
   have hn0:=hn i hlt
   obtain ⟨g,eg⟩:∃ g,ad i=g:=⟨_,rfl⟩
   obtain ⟨g2,eg2⟩:∃ g,ad2 i=g:=⟨_,rfl⟩
   obtain ⟨m,em⟩:∃ g,n i=g:=⟨_,rfl⟩
   obtain ⟨p,ep⟩:∃ g,cp i=g:=⟨_,rfl⟩
   obtain ⟨p2,ep2⟩:∃ g,cp2 i=g:=⟨_,rfl⟩
   rw [eg,em] at r0
   rw [eg,em,ep] at x0
   rw [eg2,em] at r2
   rw [eg2,em,ep2] at y0
   rw [em] at hn0
   have hltI:(i:Int) < (M:Int):=by omega
   have wk:IntKind.i64.wrap ((i:Int) + 1)=(i:Int) + 1:=IntWalk.i64_in _ (by omega)
   clear h h2 hy hy2 eg eg2 em ep ep2 hn
   go_wp2
   go_region_held3 (fun w'=>w'.cell? ⟨b,i,none⟩=some (.slice g m p)/\w'.cell? ⟨b2,i,none⟩=some (.slice g2 m p2))
    (first
     | exact ⟨zab hb7 x0,zab hb7 y0⟩
     | exact ⟨x0,y0⟩
     | go_keep)
    (first
     | (go_at_call 35; refine (zfg g g2 p p2 m (f i) _ (r0.below (by first | exact Below.refl _ _ | exact (Below.refl _ _).drew)) (r2.below (by first | exact Below.refl _ _ | exact (Below.refl _ _).drew)) (by omega)).mono ?_; rintro e w7 ⟨rfl,hb7'⟩; have hb7:Below wo.heap.size wo w7:=(by first | exact hb7' | exact zce hb7'))
     | fail)
   all_goals
    have hb8:=zak hb hzo hb7
    go_wp2_with fail
    go_roundw
    case rel=>exact ⟨i + 1,by omega,by go_num,by first | exact hb8 | exact hb8.drew⟩
    case measure=>simp [intOf]; omega
  ·have hnl:¬ (i:Int) < (M:Int):=by omega
   go_wp2_with fail
   go_ret
   exact ⟨rfl,hb⟩
def zck (M:Nat) (ad:Nat->Option Addr) (e:Nat):Prop:=∃ k x,k < M/\ad k=some x/\e=x.block
theorem zje (k0:Int) (hk0:0<=k0/\k0<=1000000) (a:Option Addr) (c M lo hi:Nat) (ad:Nat->Option Addr) (n cp:Nat->Nat) (f:Nat->Nat->Int) (w:World) (h:zba w lo hi a M ad n cp f) (hm:M<=20) (hn:∀ k,k < M->n k<=1000) :
  Calls (SqG.prog aLt) 40 #[.slice a M c,.int .i64 k0] w fun e w'=>e=.returned (.int .i64 (k0 + (zb1 n M:Int)))/\zba w' lo hi a M ad n cp (fun k j=>k0 + (zb1 n k:Int) + (j:Int))/\zbn (zck M ad) w w':=by
 go_enter SqG.func40,Tryz.ntmps40
 go_wp2_with fail
 go_loopw [1,5] (fun v ii wr=>∃ i:Nat,i<=M/\ii=.int .i64 i/\v=.int .i64 (k0 + (zb1 n i:Int))/\zba wr lo hi a M ad n cp (fun k j=>if k < i then k0 + (zb1 n k:Int) + (j:Int) else f k j)/\zbn (zck M ad) w wr) (fun _ ii _=>M - (intOf ii).toNat)
 case atStart=>exact ⟨0,Nat.zero_le _,rfl,by simp [zb1],by simpa using h,zbn.refl _ _⟩
 case round =>
  rename World=>wo
  obtain ⟨i,hi',rfl,rfl,hR,hof⟩:=hrel
  by_cases hlt:i < M
  ·rcases hR with q | ⟨b,rfl,hy⟩
   ·omega
   have x0:=hy.cell i hlt
   have r0:=hy.row i hlt
   have hltI:(i:Int) < (M:Int):=by omega
   have wk:IntKind.i64.wrap ((i:Int) + 1)=(i:Int) + 1:=IntWalk.i64_in _ (by omega)
   have hpM:=zhq hn i (by omega)
   have hn0:=hn i hlt
   obtain ⟨p,hp⟩:∃ p,zb1 n i=p:=⟨_,rfl⟩
   rw [hp] at hpM ⊢
   have HP:Hid (zb1 n i=p):=hp
   have HP1:Hid (zb1 n (i + 1)=p + n i):=by rw [<- hp]; exact (rfl:zb1 n (i + 1)=zb1 n i + n i)
   clear hp h
   go_wp2_with fail
   refine (zet (k0 + (p:Int)) (ad i) (n i) (cp i) _ _ r0 (by omega) (by omega)).mono ?_
   rintro e w7 ⟨rfl,hr7,hg7⟩
   have hblk:∀ b',(Value.slice (ad i) (n i) (cp i)).ownBlock=some b'->∃ x,ad i=some x/\b'=x.block:=fun b' q=>by
    rcases e:ad i with _ | x
    ·rw [e] at q; exact absurd q (by simp [Value.ownBlock])
    ·rw [e] at q
     simp only [Value.ownBlock,Option.some.injEq] at q
     exact ⟨x,rfl,q.symm⟩
   have ho7:=(zbn.refl (fun e=>∃ x,ad i=some x/\e=x.block) wo).grown hg7 hblk
   have hof7:=hof.grown hg7 (fun b' q=>by obtain ⟨x,q1,q2⟩:=hblk b' q; exact ⟨i,x,hlt,q1,q2⟩)
   have hy7:zlK w7 lo hi b M ad n cp (fun k j=>if k < i + 1 then k0 + (zb1 n k:Int) + (j:Int) else f k j):=by
    refine ⟨hy.out,fun k hk=>ho7.cell (fun ⟨x,q1,q2⟩=>(hy.lt i x hlt q1).2 q2.symm) (hy.cell k hk),fun k hk=>?_,hy.lt,hy.inj,Nat.le_trans hy.top ho7.size⟩
    by_cases e:k=i
    ·subst e
     refine hr7.like fun j hj=>?_
     rw [if_pos (by omega),HP.out]
    ·refine ((hy.row k hk).offN ho7 (fun x q ⟨x',q1,q2⟩=>e (hy.inj k i x x' hk hlt q q1 q2))).like fun j hj=>?_
     by_cases e2:k < i
     ·rw [if_pos (by omega),if_pos e2]
     ·rw [if_neg (by omega),if_neg e2]
   have hv:(k0 + (p:Int)) + 1 * (n i:Int)=k0 + (zb1 n (i + 1):Int):=by rw [HP1.out]; omega
   rw [hv]
   clear hy hof hr7 hg7 ho7 hv hblk
   go_wp2_with fail
   go_roundw
   case rel=>exact ⟨i + 1,by omega,by go_num,rfl,.inr ⟨b,rfl,hy7⟩,hof7⟩
   case measure=>simp [intOf]; omega
  ·have hiM:i=M:=by omega
   subst hiM
   have hnl:¬ (i:Int) < (i:Int):=by omega
   have hR2:zba wo lo hi a i ad n cp (fun k j=>k0 + (zb1 n k:Int) + (j:Int)):=by
    rcases hR with q | ⟨b,e,hy⟩
    ·exact .inl q
    ·exact .inr ⟨b,e,hy.out,hy.cell,fun k hk=>(hy.row k hk).like fun j hj=>by rw [if_pos hk],hy.lt,hy.inj,hy.top⟩
   clear hR h
   go_wp2_with fail
   go_ret
   exact ⟨rfl,hR2,hof⟩
theorem zi4 (k0:Int) (hk0:0<=k0/\k0<=1000000) (a:Option Addr) (c M lo hi:Nat) (ad:Nat->Option Addr) (n cp:Nat->Nat) (w:World) (h:zba w lo hi a M ad n cp (fun k j=>k0 + (zb1 n k:Int) + (j:Int))) (hm:M<=20) (hn:∀ k,k < M->n k<=1000) :
  Calls (SqG.prog aLt) 43 #[.slice a M c,.int .i64 k0] w fun e w'=>e=.returned (.int .i64 (k0 + (zb1 n M:Int)))/\w'=w:=by
 go_enter SqG.func43,Tryz.ntmps43
 go_wp2_with fail
 go_loopw [1,5] (fun v ii wr=>∃ i:Nat,i<=M/\ii=.int .i64 i/\v=.int .i64 (k0 + (zb1 n i:Int))/\wr=w) (fun _ ii _=>M - (intOf ii).toNat)
 case atStart=>exact ⟨0,Nat.zero_le _,rfl,by simp [zb1],rfl⟩
 case round =>
  rename World=>wo
  obtain ⟨i,hi',rfl,rfl,ew⟩:=hrel
  subst ew
  by_cases hlt:i < M
  ·rcases h with q | ⟨b,rfl,hy⟩
   ·omega
   have x0:=hy.cell i hlt
   have r0:=hy.row i hlt
   have hltI:(i:Int) < (M:Int):=by omega
   have wk:IntKind.i64.wrap ((i:Int) + 1)=(i:Int) + 1:=IntWalk.i64_in _ (by omega)
   have hpM:=zhq hn i (by omega)
   have hn0:=hn i hlt
   obtain ⟨p,hp⟩:∃ p,zb1 n i=p:=⟨_,rfl⟩
   simp only [hp] at r0
   rw [hp] at hpM ⊢
   have HP1:Hid (zb1 n (i + 1)=p + n i):=by rw [<- hp]; exact (rfl:zb1 n (i + 1)=zb1 n i + n i)
   have hv:(k0 + (p:Int)) + 1 * (n i:Int)=k0 + (zb1 n (i + 1):Int):=by rw [HP1.out]; omega
   have bneg:decide ((k0 + (p:Int)) + 1 * (n i:Int) < 0)=false:=decide_eq_false (by omega)
   rw [hv] at bneg
   have HV:Hid ((k0 + (p:Int)) + 1 * (n i:Int)=k0 + (zb1 n (i + 1):Int)):=hv
   obtain ⟨z,hz⟩:∃ z:Int,k0 + (zb1 n (i + 1):Int)=z:=⟨_,rfl⟩
   have HZ:Hid (k0 + (zb1 n (i + 1):Int)=z):=hz
   rw [hz] at bneg
   clear hp hv hz hy
   go_wp2_with fail
   refine (zer (k0 + (p:Int)) (ad i) (n i) (cp i) _ r0 (by omega) (by omega)).mono ?_
   rintro e w7 ⟨rfl,rfl⟩
   rw [HV.out,HZ.out]
   go_wp2_with fail
   go_roundw
   case rel=>exact ⟨i + 1,by omega,by go_num,by rw [HZ.out],by first | rfl | trivial⟩
   case measure=>simp [intOf]; omega
  ·have hiM:i=M:=by omega
   subst hiM
   have hnl:¬ (i:Int) < (i:Int):=by omega
   clear h
   go_wp2_with fail
   go_ret
   exact ⟨rfl,rfl⟩
end Sp
end Go.Proofs.YtfbbcooklhmeaaaGreat
