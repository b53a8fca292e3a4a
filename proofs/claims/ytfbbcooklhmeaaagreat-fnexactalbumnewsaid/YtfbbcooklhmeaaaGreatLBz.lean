/- Of the proof: PBc -/
import Derived.Test.YtfbbcooklhmeaaaGreatLBy
set_option maxHeartbeats 1000000
set_option linter.unusedVariables false
namespace Go.Proofs.YtfbbcooklhmeaaaGreat
variable {ok:Bool} {cs tc:List (Int × Int)} {M N hi:Nat} {l:Nat->Int} {cp n:Nat->Nat} {f:Nat->Nat->Int} {ad:Nat->Option Addr} {S:Nat->Prop} {a:Option Addr} {w w':World}
namespace Sp
open Go.RowKit
attribute [local go_sem ↓] Go.wp_at_zero Go.wp_at_succ
theorem zba.wide {lo lo' hi':Nat} (h:zba w lo hi a M ad n cp f) (h1:lo'<=lo) (h2:hi<=hi') (h3:hi'<=w.heap.size):zba w lo' hi' a M ad n cp f:=by
 rcases h with h | ⟨b,e,h⟩
 ·exact .inl h
 ·exact .inr ⟨b,e,by have:=h.out; omega,h.cell,h.row,fun k x hk q=>by have:=h.lt k x hk q; omega,h.inj,h3⟩
theorem Sn.wide {B B' hi':Nat} {ga la fa:Option Addr} {gc:Nat} (h:Sn w B hi N cs M l n f ga la fa gc ad cp) (h1:B'<=B) (h2:hi<=hi') (h3:hi'<=w.heap.size):Sn w B' hi' N cs M l n f ga la fa gc ad cp :=
 ⟨h.own.mono h1,h.li,h.feet.wide h1 h2 h3,h.ap.mono h2,fun e q=>Nat.le_trans h1 (h.lo e q),h3⟩
theorem zbn.alloc (h:zbn S w w') (o:Obj):zbn S w (w'.alloc o) :=
 h.trans (zbn.of (Below.alloc (Below.refl _ _) (Nat.le_refl _) _))
theorem zbn.setCell (h:zbn S w w') {p:Addr} {v:Value} (hp:S p.block):zbn S w (w'.setCell p v) :=
 ⟨h.os,h.tape,h.output,by simpa [World.setCell] using h.size,fun k hk hn=>(Below.heap_setCell _ _ _ _ (fun e=>hn (by rw [e]; exact hp))).trans (h.block k hk hn)⟩
theorem zru {B:Nat} (h:hi<=w.heap.size):Sn w B hi 0 [] 0 l n f none none none 0 (fun _=>none) (fun _=>0):=by
 have h0:∀ e,¬ za9 none e:=fun e ⟨x,h,_⟩=>by cases h
 have h1:∀ e,¬ zck 0 (fun _=>none) e:=fun e ⟨k,x,h,_⟩=>by omega
 exact ⟨⟨rfl,.inl ⟨rfl,rfl⟩⟩,.inl rfl,.inl rfl,⟨fun e h=>absurd h (h0 e),fun e h=>absurd h (h0 e),fun e h=>absurd h (h0 e),fun e h=>absurd h (h0 e),fun e h=>absurd h (h0 e),fun e h=>by rcases h with h | h | h; exact absurd h (h0 e); exact absurd h (h0 e); exact absurd h (h1 e)⟩,fun e h=>by rcases h with h | h | h | h; exact absurd h (h0 e); exact absurd h (h0 e); exact absurd h (h0 e); exact absurd h (h1 e),h⟩
def zqq (w:World) (wd:Int) (N:Nat) (cs:List (Int × Int)) (M:Nat) (l:Nat->Int) (n:Nat->Nat) (f:Nat->Nat->Int) (ok:Bool) (r:Ending) (w':World):Prop :=
 ∃ ga la fa gc lc fc ad cp pa pc na nc,r=.returned (.tuple #[.agg #[.int .i64 wd,.slice ga N gc,.slice la M lc,.slice fa M fc,.slice pa 0 pc,.slice na 0 nc],.bool ok])/\Sn w' w.heap.size w'.heap.size N cs M l n f ga la fa gc ad cp/\Below w.heap.size w w'
theorem zg3 {wd tw:Int} (CI:∀ (a:Option Addr) (cap:Nat) (w:World),zai w a cs->Calls SqP.prog 16 #[.agg #[.int .i64 wd,.slice a cs.length cap]] w (zrd w tw N tc M l n f ok)) (a:Option Addr) (cap:Nat) (w:World) (hC:zai w a cs) :
  Calls SqP.prog 7 #[.agg #[.int .i64 wd,.slice a cs.length cap]] w (zqq w tw N tc M l n f ok):=by
 obtain ⟨w2,hw2⟩:∃ w2,w2=(w.alloc (.cells #[.int .i64 wd,.slice a cs.length cap] 28)).alloc (.cells #[.int .i64 0,.slice none 0 0,.slice none 0 0,.slice none 0 0,.slice none 0 0,.slice none 0 0] 35):=⟨_,rfl⟩
 have H2:Hid (zbO w w2 [(w.heap.size + 1,.cells #[.int .i64 0,.slice none 0 0,.slice none 0 0,.slice none 0 0,.slice none 0 0,.slice none 0 0] 35),(w.heap.size,.cells #[.int .i64 wd,.slice a cs.length cap] 28)]):=by rw [hw2]; exact zha _ _ w
 have hz2:w2.heap.size=w.heap.size + 2:=by rw [hw2]; simp
 have hS:=CI a cap w2 (hC.below H2.out.below)
 have c0:w2.cell? ⟨w.heap.size,0,none⟩=some (.int .i64 wd):=(cell_of_row _ _ 0 _ _ _ (H2.out.lies (w.heap.size,.cells #[.int .i64 wd,.slice a cs.length cap] 28) (by simp)).1).trans rfl
 have c1:w2.cell? ⟨w.heap.size,1,none⟩=some (.slice a cs.length cap):=(cell_of_row _ _ 1 _ _ _ (H2.out.lies (w.heap.size,.cells #[.int .i64 wd,.slice a cs.length cap] 28) (by simp)).1).trans rfl
 have HZ:Hid (w2.heap.size=w.heap.size + 2):=hz2
 clear CI hC hz2
 go_enter SqP.func7,Tryz.ntmps7
 go_upto_region 1 with fail
 rw [<- hw2]
 clear hw2
 go_wp2_with fail
 refine hS.mono ?_
 rintro e w3 ⟨ga,la,fa,gc,lc,fc,ad,cp,rfl,hK,hb⟩
 have h3:zbO w w3 [(w.heap.size + 1,.cells #[.int .i64 0,.slice none 0 0,.slice none 0 0,.slice none 0 0,.slice none 0 0,.slice none 0 0] 35),(w.heap.size,.cells #[.int .i64 wd,.slice a cs.length cap] 28)]:=H2.out.on hb
 have hrv:=(h3.lies (w.heap.size + 1,.cells #[.int .i64 0,.slice none 0 0,.slice none 0 0,.slice none 0 0,.slice none 0 0,.slice none 0 0] 35) (by simp)).1
 obtain ⟨g0,g1,g2,g3,g4,g5⟩:=zqv hrv
 have f0:=frozen_of_row _ _ 0 _ _ hrv
 have f1:=frozen_of_row _ _ 1 _ _ hrv
 have f2:=frozen_of_row _ _ 2 _ _ hrv
 have f3:=frozen_of_row _ _ 3 _ _ hrv
 have f4:=frozen_of_row _ _ 4 _ _ hrv
 have f5:=frozen_of_row _ _ 5 _ _ hrv
 have hlt:w.heap.size + 1 < w3.heap.size:=(gei hrv).1
 have HF:Hid (∀ w',zbn (fun e=>e=w.heap.size + 1) w3 w'->Sn w' w.heap.size w'.heap.size N tc M l n f ga la fa gc ad cp/\Below w.heap.size w w'):=by
  intro w' ho
  have:=HZ.out
  exact ⟨(hK.off ho (fun e h1 h2 h3=>by omega)).wide (by omega) ho.size (Nat.le_refl _),ho.below h3.below (fun e q=>by omega) (by omega)⟩
 clear hS hK hb h3 H2 hrv HZ c0 c1
 go_wp2_with fail
 refine bodyPost_ret (v:=.tuple #[.agg #[.int .i64 tw,.slice ga N gc,.slice la M lc,.slice fa M fc,.slice none 0 0,.slice none 0 0],.bool ok]) (by simp [results,go_sem,g0,g1,g2,g3,g4,g5,hlt]) rfl ?_
 exact ⟨ga,la,fa,gc,lc,fc,ad,cp,none,0,none,0,rfl,HF.out _ (by repeat (first | with_reducible exact zbn.refl _ _ | with_reducible refine zbn.alloc ?_ _ | (with_reducible refine zbn.setCell ?_ ?_; rotate_left; exact rfl)))⟩
theorem zhj {wd tw:Int} (CS:∀ (a:Option Addr) (cap:Nat) (w:World),zai w a cs->Calls SqP.prog 14 #[.agg #[.int .i64 wd,.slice a cs.length cap]] w (zrd w tw N tc M l n f ok)) (hno:ok=false->tw=0/\tc=[]/\N=0/\M=0) (a:Option Addr) (cap:Nat) (w:World) (hC:zai w a cs) :
  Calls SqP.prog 5 #[.agg #[.int .i64 wd,.slice a cs.length cap]] w (zqq w tw N tc M l n f ok):=by
 obtain ⟨w2,hw2⟩:∃ w2,w2=(w.alloc (.cells #[.int .i64 wd,.slice a cs.length cap] 28)).alloc (.cells #[.int .i64 0,.slice none 0 0,.slice none 0 0,.slice none 0 0,.slice none 0 0,.slice none 0 0] 35):=⟨_,rfl⟩
 have H2:Hid (zbO w w2 [(w.heap.size + 1,.cells #[.int .i64 0,.slice none 0 0,.slice none 0 0,.slice none 0 0,.slice none 0 0,.slice none 0 0] 35),(w.heap.size,.cells #[.int .i64 wd,.slice a cs.length cap] 28)]):=by rw [hw2]; exact zha _ _ w
 have hz2:w2.heap.size=w.heap.size + 2:=by rw [hw2]; simp
 have hS:=CS a cap w2 (hC.below H2.out.below)
 have c0:w2.cell? ⟨w.heap.size,0,none⟩=some (.int .i64 wd):=(cell_of_row _ _ 0 _ _ _ (H2.out.lies (w.heap.size,.cells #[.int .i64 wd,.slice a cs.length cap] 28) (by simp)).1).trans rfl
 have c1:w2.cell? ⟨w.heap.size,1,none⟩=some (.slice a cs.length cap):=(cell_of_row _ _ 1 _ _ _ (H2.out.lies (w.heap.size,.cells #[.int .i64 wd,.slice a cs.length cap] 28) (by simp)).1).trans rfl
 have HZ:Hid (w2.heap.size=w.heap.size + 2):=hz2
 clear CS hC hz2
 go_enter SqP.func5,Tryz.ntmps5
 go_upto_region 1 with fail
 rw [<- hw2]
 clear hw2
 go_wp2_with fail
 refine hS.mono ?_
 rintro e w3 ⟨ga,la,fa,gc,lc,fc,ad,cp,rfl,hK,hb⟩
 have h3:zbO w w3 [(w.heap.size + 1,.cells #[.int .i64 0,.slice none 0 0,.slice none 0 0,.slice none 0 0,.slice none 0 0,.slice none 0 0] 35),(w.heap.size,.cells #[.int .i64 wd,.slice a cs.length cap] 28)]:=H2.out.on hb
 have hrv:=(h3.lies (w.heap.size + 1,.cells #[.int .i64 0,.slice none 0 0,.slice none 0 0,.slice none 0 0,.slice none 0 0,.slice none 0 0] 35) (by simp)).1
 obtain ⟨g0,g1,g2,g3,g4,g5⟩:=zqv hrv
 have f0:=frozen_of_row _ _ 0 _ _ hrv
 have f1:=frozen_of_row _ _ 1 _ _ hrv
 have f2:=frozen_of_row _ _ 2 _ _ hrv
 have f3:=frozen_of_row _ _ 3 _ _ hrv
 have f4:=frozen_of_row _ _ 4 _ _ hrv
 have f5:=frozen_of_row _ _ 5 _ _ hrv
 have hlt:w.heap.size + 1 < w3.heap.size:=(gei hrv).1
 have HF:Hid (∀ w',zbn (fun e=>e=w.heap.size + 1) w3 w'->Sn w' w.heap.size w'.heap.size N tc M l n f ga la fa gc ad cp/\Below w.heap.size w w'):=by
  intro w' ho
  have:=HZ.out
  exact ⟨(hK.off ho (fun e h1 h2 h3=>by omega)).wide (by omega) ho.size (Nat.le_refl _),ho.below h3.below (fun e q=>by omega) (by omega)⟩
 clear hS hK hb h3 H2 hrv HZ c0 c1
 rcases ok with _ | _
 ·obtain ⟨rfl,rfl,rfl,rfl⟩:=hno rfl
  go_wp2_with fail
  refine bodyPost_ret (v:=.tuple #[.agg #[.int .i64 0,.slice none 0 0,.slice none 0 0,.slice none 0 0,.slice none 0 0,.slice none 0 0],.bool false]) (by simp [results,go_sem,g0,g1,g2,g3,g4,g5,hlt]) rfl ?_
  exact ⟨none,none,none,0,0,0,_,_,none,0,none,0,rfl,zru (Nat.le_refl _),(HF.out _ (by repeat (first | with_reducible exact zbn.refl _ _ | with_reducible refine zbn.alloc ?_ _ | (with_reducible refine zbn.setCell ?_ ?_; rotate_left; exact rfl)))).2⟩
 ·have z1:w.heap.size < w3.heap.size:=by omega
  have z2:w.heap.size < w3.heap.size + 1:=by omega
  go_wp2_with fail
  refine bodyPost_ret (v:=.tuple #[.agg #[.int .i64 tw,.slice ga N gc,.slice la M lc,.slice fa M fc,.slice (some ⟨w3.heap.size + 1,0,none⟩) 0 0,.slice (some ⟨w3.heap.size + 1 + 1,0,none⟩) 0 0],.bool true]) (by simp [results,go_sem,g0,g1,g2,g3,g4,g5,hlt,z1,z2]) rfl ?_
  exact ⟨ga,la,fa,gc,lc,fc,ad,cp,_,0,_,0,rfl,HF.out _ (by repeat (first | with_reducible exact zbn.refl _ _ | with_reducible refine zbn.alloc ?_ _ | (with_reducible refine zbn.setCell ?_ ?_; rotate_left; exact rfl)))⟩
theorem zpM (wd:Int) (cs:List (Int × Int)) (hm:cs.length<=1048576):∃ (wd':Int) (cs':List (Int × Int)) (M:Nat) (l:Nat->Int) (n:Nat->Nat) (f:Nat->Nat->Int) (ok:Bool),cs'.length<=25/\M<=20/\(∀ k,k < M->n k<=1000) /\
  (∀ (a:Option Addr) (cap:Nat) (w:World),zai w a cs->Calls SqP.prog 7 #[.agg #[.int .i64 wd,.slice a cs.length cap]] w (zqq w wd' cs'.length cs' M l n f ok)) /\
  (∀ (a:Option Addr) (cap:Nat) (w:World),zai w a cs->Calls SqP.prog 5 #[.agg #[.int .i64 wd,.slice a cs.length cap]] w (zqq w wd' cs'.length cs' M l n f ok)):=by
 obtain ⟨tw,tc,M,l,n,f,ok,hlen,hM,hn,hno,ci,cp⟩:=zqe wd cs hm
 exact ⟨tw,tc,M,l,n,f,ok,hlen,hM,hn,zg3 (fun a cap w h=>(ci a cap w h).mono fun e w' q=>zlM q rfl),zhj (fun a cap w h=>(cp a cap w h).mono fun e w' q=>zlM q rfl) (fun h=>by obtain ⟨h1,h2,h3⟩:=hno h; exact ⟨h1,h2,by rw [h2]; rfl,h3⟩)⟩
end Sp
end Go.Proofs.YtfbbcooklhmeaaaGreat
