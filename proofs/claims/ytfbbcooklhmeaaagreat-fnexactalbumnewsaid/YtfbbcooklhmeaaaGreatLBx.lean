/- Of the proof: PFy -/
import Derived.Test.YtfbbcooklhmeaaaGreatLBn
set_option linter.unusedVariables false
namespace Go.Proofs.YtfbbcooklhmeaaaGreat
variable {wd:Int} {cs:List (Int × Int)} {B M N gc hi:Nat} {l:Nat->Int} {cp n:Nat->Nat} {f:Nat->Nat->Int} {ad ad2:Nat->Option Addr} {S:Nat->Prop} {a fa ga la:Option Addr} {w w':World}
namespace Sp
open Go.RowKit
attribute [local go_sem ↓] Go.wp_at_zero Go.wp_at_succ
theorem zhe {c:Nat} (h:Own w B (.slice a N c) cs):zai w a cs:=by
 obtain ⟨a2,c2,e,hC⟩:=h.slice
 simp only [Value.slice.injEq] at e
 obtain ⟨rfl,_,rfl⟩:=e
 exact hC
structure Sn (w:World) (B hi N:Nat) (cs:List (Int × Int)) (M:Nat) (l:Nat->Int) (n:Nat->Nat) (f:Nat->Nat->Int) (ga la fa:Option Addr) (gc:Nat) (ad:Nat->Option Addr) (cp:Nat->Nat):Prop where
 own:Own w B (.slice ga N gc) cs
 li:RI w la (M * 1) l
 feet:zba w B hi fa M ad n cp f
 ap:zgc hi ga la fa M ad
 lo:∀ e,za9 ga e\/za9 la e\/za9 fa e\/zck M ad e->B<=e
 top:hi<=w.heap.size
theorem Sn.off (h:Sn w B hi N cs M l n f ga la fa gc ad cp) (ho:zbn S w w') (hS:∀ e,B<=e->e < hi->¬ S e):Sn w' B hi N cs M l n f ga la fa gc ad cp :=
 ⟨zeS h.own ho (fun b hb=>hS b (h.lo b (.inl (zc4 hb))) (h.ap.lt b (.inl (zc4 hb)))),h.li.offN ho (fun x e=>hS _ (h.lo _ (.inr (.inl ⟨x,e,rfl⟩))) (h.ap.lt _ (.inr (.inl ⟨x,e,rfl⟩)))),h.feet.off ho hS,h.ap,h.lo,Nat.le_trans h.top ho.size⟩
theorem Sn.below (h:Sn w B hi N cs M l n f ga la fa gc ad cp) (hb:Below w.heap.size w w'):Sn w' B hi N cs M l n f ga la fa gc ad cp :=
 h.off (S:=fun _=>False) (zbn.of hb) (fun _ _ _=>id)
theorem zgc.mono {sz sz':Nat} (h:zgc sz ga la fa M ad) (hz:sz<=sz'):zgc sz' ga la fa M ad :=
 ⟨h.gl,h.gf,h.gr,h.lf,h.lr,fun e q=>nll (h.lt e q) hz⟩
def zrd (w:World) (wd:Int) (N:Nat) (cs:List (Int × Int)) (M:Nat) (l:Nat->Int) (n:Nat->Nat) (f:Nat->Nat->Int) (ok:Bool) (r:Ending) (w':World):Prop :=
 ∃ ga la fa gc lc fc ad cp,r=.returned (.tuple #[.agg #[.int .i64 wd,.slice ga N gc,.slice la M lc,.slice fa M fc],.bool ok])/\Sn w' w.heap.size w'.heap.size N cs M l n f ga la fa gc ad cp/\Below w.heap.size w w'
theorem zlM {ok:Bool} {r:Ending} (h:zqw w wd cs M l n f ok r w') (hN:cs.length=N):zrd w wd N cs M l n f ok r w':=by
 subst hN
 obtain ⟨ga,la,fa,gc,lc,fc,ad,cp,h1,h2,h3,h4,h5,h6,h7⟩:=h
 exact ⟨ga,la,fa,gc,lc,fc,ad,cp,h1,⟨h2,h3,h4,h5,h6,Nat.le_refl _⟩,h7⟩
theorem zrD {ga2 la2 fa2:Option Addr} {lc fc gc2 lc2 fc2 B2 hi2:Nat} {cp2:Nat->Nat} (h:Sn w B hi N cs M l n f ga la fa gc ad cp) (h2:Sn w B2 hi2 N cs M l n f ga2 la2 fa2 gc2 ad2 cp2) (hN:cs.length=N) (hm:N<=25) (hM:M<=20) (hn:∀ k,k < M->n k<=1000) :
  Calls SqP.prog 17 #[.agg #[.int .i64 wd,.slice ga N gc,.slice la M lc,.slice fa M fc],.agg #[.int .i64 wd,.slice ga2 N gc2,.slice la2 M lc2,.slice fa2 M fc2]] w fun e w'=>e=.returned (.bool true)/\Below w.heap.size w w':=by
 subst hN
 exact zl6 wd cs M ga ga2 la la2 fa fa2 gc gc2 lc lc2 fc fc2 B hi B2 hi2 ad ad2 n cp cp2 l f w (zhe h.own) (zhe h2.own) h.li h2.li h.feet h2.feet (by omega) hM hn
theorem zqL {lc fc:Nat} (h:Sn w B hi N cs M l n f ga la fa gc ad cp) (hN:cs.length=N) (hm:N<=25) (hM:M<=20) (hn:∀ k,k < M->n k<=1000) {k1 k2 k3:Int} (e1:k1=1 + 2 * (N:Int)) (e2:k2=k1 + 1 * (M:Int)) (e3:k3=k2 + (zb1 n M:Int)) :
  Calls SqP.prog 21 #[.agg #[.int .i64 wd,.slice ga N gc,.slice la M lc,.slice fa M fc],.int .i64 1] w fun e w'=>e=.returned (.int .i64 k3)/\Sn w' B hi N (marks 1 N) M (fun j=>k1 + (j:Int)) n (fun k j=>k2 + (zb1 n k:Int) + (j:Int)) ga la fa gc ad cp/\zbn (fun e=>B<=e/\e < hi) w w':=by
 subst hN
 refine (zjf wd 1 k1 k2 k3 cs M B ga la fa gc lc fc B hi ad n cp l f w e1 e2 e3 (by omega) h.own h.li h.feet (by omega) hM hn (h.ap.mono h.top)).mono ?_
 rintro e w' ⟨rfl,q1,q2,q3,q4⟩
 refine ⟨rfl,⟨q1,q2,q3,h.ap,h.lo,Nat.le_trans h.top q4.size⟩,q4.imp fun e q=>⟨h.lo e ?_,h.ap.lt e q⟩⟩
 rcases q with q | q | q
 ·exact .inl q
 ·exact .inr (.inl q)
 ·exact .inr (.inr (.inr q))
theorem zqG {lc fc:Nat} {k1 k2 k3:Int} (h:Sn w B hi N (marks 1 N) M (fun j=>k1 + (j:Int)) n (fun k j=>k2 + (zb1 n k:Int) + (j:Int)) ga la fa gc ad cp) (hm:N<=25) (hM:M<=20) (hn:∀ k,k < M->n k<=1000) (e1:k1=1 + 2 * (N:Int)) (e2:k2=k1 + 1 * (M:Int)) (e3:k3=k2 + (zb1 n M:Int)) :
  Calls SqP.prog 23 #[.agg #[.int .i64 wd,.slice ga N gc,.slice la M lc,.slice fa M fc],.int .i64 1] w fun e w'=>e=.returned (.int .i64 k3)/\Below w.heap.size w w' :=
 zi5 wd 1 k1 k2 k3 N M ga la fa gc lc fc B hi ad n cp w e1 e2 e3 (by omega) (zhe h.own) h.li h.feet (by omega) hM hn
end Sp
end Go.Proofs.YtfbbcooklhmeaaaGreat
