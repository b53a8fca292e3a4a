/- Of the proof: SqN, Qx, Qy -/
import Derived.Test.YtfbbcooklhmeaaaGreatLAk
import Derived.Test.YtfbbcooklhmeaaaGreatLAv
import Derived.Test.YtfbbcooklhmeaaaGreatLBf
import Derived.Test.YtfbbcooklhmeaaaGreatLBo
namespace Go.Proofs.YtfbbcooklhmeaaaGreat
variable {gs:List (Int × Int)} {l0:List (Nat × Obj)} {N n:Nat} {p:Nat × Obj} {K Kc:Nat->Prop} {a ga ga':Option Addr} {w w' w1:World}
section
open Go
noncomputable abbrev SqN.prog:Program:=SqG.prog Sq.altN
abbrev SqN.func30:=@SqG.func30 Sq.altN
abbrev SqN.func31:=@SqG.func31 Sq.altN
abbrev SqN.func34:=@SqG.func34 Sq.altN
abbrev SqN.func53:=@SqG.func53 Sq.altN
abbrev SqN.func54:=@SqG.func54 Sq.altN
abbrev SqN.func55:=@SqG.func55 Sq.altN
abbrev SqN.func83:=@SqG.func83 Sq.altN
end
section
open Go Go.Conc Go.ConcN Go.RowKit Go.Conc.Lib Go.ConcR.Gen Go.ConcN.Gen
open Go.ConcR (KK wgBlock WgAt stA smA rd wr mk Payload Aside2 DC0)
theorem zeP:zbE=false:=rfl
def rng (R:BR):Nat->Prop:=fun c=>∃ b,R b c
theorem zbG.snd {R:BR} {a c:Addr} (h:zbG R a c):zbG (zdw (rng R)) c c:=⟨⟨rfl,_,h.1⟩,rfl,rfl⟩
theorem zdW {R:BR} {m:Nat} (h:zao R (.slice ga n m) (.slice ga' n m)):zao (zdw (rng R)) (.slice ga' n m) (.slice ga' n m):=by
 cases h with
 | slice _ _ h=>exact .slice _ _ h.snd
 | nilSlice _ _=>exact .nilSlice _ _
theorem zk7 {R:BR} (h:za8 N R w w'):Closed (rng R) w':=by
 rintro c ⟨b,hb⟩
 obtain ⟨o,o',_,e2,ho⟩:=h.blk b c hb
 cases ho with
 | cells hr _ _=>exact .inl ⟨_,_,_,e2,zeP⟩
 | other hj _ =>
  cases hj with
  | map hx _=>rw [zeP] at hx; cases hx
  | number ha=>exact .inr ⟨zeP,_,_,e2,ha.snd⟩
open Classical in
noncomputable def held (K:Nat->Prop) (w:World):List (Nat × Obj):=(List.range w.heap.size).filterMap fun c=>if K c then (w.heap[c]?).map fun o=>(c,o) else none
theorem zbA :p ∈ held K w ↔ K p.1/\w.heap[p.1]?=some p.2:=by
 classical
 unfold held
 simp only [List.mem_filterMap,List.mem_range]
 constructor
 ·rintro ⟨c,_,h⟩
  split at h
  ·rename_i hk
   obtain ⟨o,ho,rfl⟩:=Option.map_eq_some_iff.1 h
   exact ⟨hk,ho⟩
  ·cases h
 ·rintro ⟨hk,ho⟩
  refine ⟨p.1,(gei ho).1,?_⟩
  rw [if_pos hk,ho]
  rfl
theorem zmm (K:Nat->Prop) (w:World):Hp (held K w) w:=fun _ h=>(zbA.1 h).2
theorem zi6 (h:Closed K w) (hp:Hp (held K w) w1):Closed K w1:=fun b hb=>by
 rcases h b hb with ⟨c,e,f,hx,hr⟩ | ⟨ho,a,l,hx,hr⟩
 ·exact .inl ⟨c,e,f,hp (b,_) (zbA.2 ⟨hb,hx⟩),hr⟩
 ·exact .inr ⟨ho,a,l,hp (b,_) (zbA.2 ⟨hb,hx⟩),hr⟩
theorem zhG {cs:List (Int × Int)} (h:Sp.zai w a cs) (hb:∀ b off,a=some ⟨b,off,none⟩->w1.heap[b]?=w.heap[b]?) (τ:Nat->Question->Nat) (d:Nat):Sp.zai (w1.frz.tp τ d) a cs:=by
 rcases h with h | ⟨b,off,rfl,hl,hc⟩
 ·exact .inl h
 ·have e:=hb b off rfl
  have hc1:∀ i,w1.cell? ⟨b,i,none⟩=w.cell? ⟨b,i,none⟩:=fun i=>by simp only [World.cell?,e]
  have hc2:∀ i (x:Int),w.cell? ⟨b,i,none⟩=some (.int .i64 x)->(w1.frz.tp τ d).cell? ⟨b,i,none⟩=some (.int .i64 x):=fun i x h=>by
   have q:=zog w1 ⟨b,i,none⟩
   rw [hc1,h] at q
   exact q
  refine .inr ⟨b,off,rfl,?_,fun i hi=>⟨hc2 _ _ (hc i hi).1,hc2 _ _ (hc i hi).2⟩⟩
  show b < w1.frz.heap.size
  rw [zeN]
  rw [Array.getElem?_eq_getElem hl] at e
  exact (gei e).1
theorem zkF (h:∀ j,j < n->∃ b off c e z x y,ga=some ⟨b,off,none⟩/\w.heap[b]?=some (.cells c e z)/\c[off + j * 2]?=some (.int .i64 x)/\c[off + j * 2 + 1]?=some (.int .i64 y)) :
  ∃ cs:List (Int × Int),cs.length=n/\Sp.zai w ga cs:=by
 classical
 have hx:∀ j:Fin n,∃ p:Int × Int,∃ b off c e z,ga=some ⟨b,off,none⟩/\w.heap[b]?=some (.cells c e z)/\c[off + j.val * 2]?=some (.int .i64 p.1)/\c[off + j.val * 2 + 1]?=some (.int .i64 p.2):=fun j=>by
  obtain ⟨b,off,c,e,z,x,y,h1,h2,h3,h4⟩:=h j.val j.isLt
  exact ⟨(x,y),b,off,c,e,z,h1,h2,h3,h4⟩
 obtain ⟨f,hf⟩:=Classical.axiomOfChoice hx
 refine ⟨List.ofFn f,by simp,?_⟩
 by_cases hn:n=0
 ·subst hn; exact .inl (by simp)
 ·obtain ⟨b,off,c,e,z,h1,h2,_,_⟩:=hf ⟨0,by omega⟩
  refine .inr ⟨b,off,h1,(gei h2).1,fun i hi=>?_⟩
  have hi':i < n:=by simpa using hi
  obtain ⟨b1,off1,c1,e1,z1,q1,q2,q3,q4⟩:=hf ⟨i,hi'⟩
  rw [h1] at q1
  cases q1
  rw [h2] at q2
  cases q2
  have eg:(List.ofFn f).getD i (0,0)=f ⟨i,hi'⟩:=by simp [List.getD,hi']
  rw [eg]
  exact ⟨by simp only [World.cell?,h2]; exact q3,by simp only [World.cell?,h2]; exact q4⟩
theorem ziR {R:BR} (hw:za8 N R w w') {m:Nat} (hv:zao R (.slice ga n m) (.slice ga' n m)) {cs:List (Int × Int)} (h:Sp.zai w ga cs):Sp.zai w' ga' cs:=by
 rcases h with h | ⟨b,off,rfl,hl,hc⟩
 ·exact .inl h
 ·cases hv with
  | slice _ _ ha =>
   rename_i ad'
   obtain ⟨b',off',sp'⟩:=ad'
   obtain ⟨h1,h2,h3⟩:=ha
   simp only at h1 h2 h3
   subst h2 h3
   refine .inr ⟨b',off,rfl,(hw.lt h1).2,fun i hi=>?_⟩
   obtain ⟨c1,c2⟩:=hc i hi
   obtain ⟨v1,e1,r1⟩:=hw.cell (a:=⟨b,off + i * 2,none⟩) (c:=⟨b',off + i * 2,none⟩) ⟨h1,rfl,rfl⟩ c1
   obtain ⟨v2,e2,r2⟩:=hw.cell (a:=⟨b,off + i * 2 + 1,none⟩) (c:=⟨b',off + i * 2 + 1,none⟩) ⟨h1,rfl,rfl⟩ c2
   rw [e1,e2]
   exact ⟨congrArg some (zcc r1),congrArg some (zcc r2)⟩
instance SqP.twin:zaB SqP.prog Tryz.prog:=Sq.okP.twin3
instance SqP.self:zaB SqP.prog SqP.prog:=Sq.okP.self
instance SqN.twin:zaB SqN.prog Tryz.prog:=Sq.okN.twin3
instance SqN.self:zaB SqN.prog SqN.prog:=Sq.okN.self
theorem SqP.whole:Whole SqP.prog:=Sq.okP.whole Sq.ckP
theorem SqN.whole:Whole SqN.prog:=Sq.okN.whole Sq.ckN
theorem SqP.bodies:Bodies SqP.prog Tryz.prog (fun i=>Sq.X i=true):=Sq.okP.bodies Sq.ckP
theorem SqN.bodies:Bodies SqN.prog Tryz.prog (fun _=>false=true):=Sq.okN.bodies Sq.ckN
def sF (W H:Nat) (i:Nat):Nat:=if i=0 then 0 else if i=1 then W else if i=2 then W + H else W + H + W
def sE (W H:Nat) (i:Nat):Nat:=if i=0 then W else if i=1 then W + H else if i=2 then W + H + W else W + H + W + H
theorem zio (W H:Nat):Rng 4 (sF W H) (sE W H):=by
 intro i i' k h1 h2 h3 h4 h5 h6
 rcases (show i=0\/i=1\/i=2\/i=3 by omega) with rfl | rfl | rfl | rfl <;> rcases (show i'=0\/i'=1\/i'=2\/i'=3 by omega) with rfl | rfl | rfl | rfl <;> first
  | rfl
  | (exfalso; simp [sF,sE] at h3 h4 h5 h6; omega)
  | (exfalso; simp [sF,sE] at h3 h4 h6; omega)
  | (exfalso; simp [sF,sE] at h4 h5 h6; omega)
section
variable {Goal:Machine->Trace->Prop} {Shun:Nat->Prop} {c:Frame} {cs:List Frame}
set_option maxRecDepth 100000 in
theorem zoK (hG:∀ n m t m' t',runNT Tryz.prog n m t=(.next m',t')->Goal m' t'->Goal m t) {W H:Nat} {cap:Nat} 
  (hok:Sp.okG (W:Int) gs=true) (hW:1<=W/\W<=5) (hH:1<=H/\H<=5) (el:gs.length=W * H) (hHd:gs.length / W=H) (hHI:(gs.length:Int) / (W:Int)=(H:Int))
  (hl0:∀ p ∈ l0,Kc p.1) (hcl:∀ w,Hp l0 w->Closed Kc w) (hKl:∀ c,Kc c->∃ p ∈ l0,p.1=c) (hga:zao (zdw Kc) (.slice ga gs.length cap) (.slice ga gs.length cap))
  (hC:∀ w,Hp l0 w->∀ τ d,Sp.zai (w.frz.tp τ d) ga gs)
  (w:World) (hp0:Hp l0 w) (hKc:∀ c,Kc c->c < w.heap.size/\¬ Shun c)
  (hfin:∀ (u:World) (bo:Nat),zb2 (fun e=>e < w.heap.size/\¬ Shun e) w u->w.heap.size<=bo->u.heap[bo]?=some (Sp.zeT (W:Int) gs (2 * (W + H)))->∀ Shun':Nat->Prop,(∀ e,Shun' e->Shun e\/w.heap.size<=e)->¬ Shun' bo->zar Tryz.prog Goal Shun' (fun _=>False) (G (c.finish (.slice (some ⟨bo,0,none⟩) (2 * (W + H)) (2 * (W + H)))) cs) u) :
  zar Tryz.prog Goal Shun (fun _=>False) (G (Frame.enter Tryz.prog 52 #[.agg #[.int .i64 (W:Int),.slice ga gs.length cap],.func (.func 53) #[] #[]] .normal) (c :: cs)) w:=by
 haveI:Payload:=⟨0⟩
 obtain ⟨W1,W5⟩:=hW
 obtain ⟨H1,H5⟩:=hH
 have hn25:gs.length<=25:=by rw [el]; exact Nat.le_trans (Nat.mul_le_mul W5 H5) (by omega)
 have hM:Sp.zcg (W:Int) gs=((2 * (W + H):Nat):Int):=by rw [Sp.zcs hok hHI]; omega
 have hside:Sp.zbJ (W:Int) (H:Int) (gs.length:Int)=#[.int .i64 ((sF W H 0:Nat):Int),.int .i64 (W:Int),.int .i64 0,.int .i64 1,.int .i64 2,.int .i64 0,.int .i64 ((sF W H 1:Nat):Int),.int .i64 (H:Int),.int .i64 ((W:Int) - 1),.int .i64 (W:Int),.int .i64 3,.int .i64 1,.int .i64 ((sF W H 2:Nat):Int),.int .i64 (W:Int),.int .i64 ((gs.length:Int) - 1),.int .i64 (-1),.int .i64 0,.int .i64 2,.int .i64 ((sF W H 3:Nat):Int),.int .i64 (H:Int),.int .i64 ((gs.length:Int) - 1 - (W:Int) + 1),.int .i64 (-(W:Int)),.int .i64 1,.int .i64 3]:=by
  simp [Sp.zbJ,sF]
 have hhas:∀ (f m s o i u:Int),0<=f/\f<=100->0<=m/\m<=100->∀ (k:Nat) (w:World),Calls SqN.prog 83 #[.agg #[.int .i64 f,.int .i64 m,.int .i64 s,.int .i64 o,.int .i64 i,.int .i64 u],.int .i64 k] w fun e _=>e=.returned (.bool (decide (f<=k/\(k:Int) < f + m))) :=
  fun f m s o i u h1 h2 k w=>(Sp.zec f m s o i u k h1 h2 _ rfl w).mono fun e w' h=>h.1
 refine zk8 (L:=SqN.prog) (X:=fun _=>false=true) (f0:=sF W H) (e0:=sE W H) (rows:=fun k=>Sp.zbc (W:Int) gs (k:Int)) (many:=2 * (W + H)) hG SqN.whole SqN.bodies (fun _ h=>by cases h) SqN.func30 (fun h=>by cases h) SqN.func54 (fun h=>by cases h) SqN.func55 (fun h=>by cases h) hl0 hcl hga
  (fun w hp τ d=>((Sp.zaw (W:Int) ga cap gs _ (hC w hp τ d) (by omega)).mono fun e w' h=>by rw [h.1,hok]))
  (fun w hp τ d=>((Sp.zcM (W:Int) ga cap gs _ (hC w hp τ d) (by omega)).mono fun e w' h=>by rw [h.1,hM]))
  (fun w hp τ d=>((Sp.zbZ W H ga gs.length cap _ ⟨W1,W5⟩ ⟨H1,H5⟩ hn25 hHd).mono fun e w' h=>by rw [h.1,hside]))
  SqN.func83 (fun h=>by cases h) SqN.func53 Tryz.func53 rfl rfl (fun h=>by cases h) (by kernel_rfl) ?_ ?_ hKl ?_ ?_ ?_ ?_ ?_ ?_ ?_ ?_ ?_ ?_ ?_ ?_ ?_
  (fun k hk w hp τ d=>((Sp.zcr (W:Int) ga cap gs _ (hC w hp τ d) (by omega) (k:Int)).mono fun e w' h=>h.1)) ?_ (by omega) w hp0 hKc hfin
 ·exact zio W H
 ·simp [sumTo,sF,sE]; omega
 ·simp [sF,sE]
 ·omega
 ·exact hhas _ _ _ _ _ _ (by simp [sF]) (by omega)
 ·simp [sF,sE]
 ·omega
 ·exact hhas _ _ _ _ _ _ (by simp [sF]; omega) (by omega)
 ·simp [sF,sE]
 ·omega
 ·exact hhas _ _ _ _ _ _ (by simp [sF]; omega) (by omega)
 ·simp [sF,sE]
 ·omega
 ·exact hhas _ _ _ _ _ _ (by simp [sF]; omega) (by omega)
 ·intro j hj
  unfold sE
  split <;> try omega
  split <;> try omega
  split <;> omega
 ·intro k hk
  by_cases h1:k < W
  ·exact ⟨0,by omega,by simp [sF],by simp [sE]; omega⟩
  ·by_cases h2:k < W + H
   ·exact ⟨1,by omega,by simp [sF]; omega,by simp [sE]; omega⟩
   ·by_cases h3:k < W + H + W
    ·exact ⟨2,by omega,by simp [sF]; omega,by simp [sE]; omega⟩
    ·exact ⟨3,by omega,by simp [sF]; omega,by simp [sE]; omega⟩
end
theorem zj4 {R:BR} {c:Array Value} (h:∀ i (h:i < c.size),∃ n,c[i]=.int .i64 n):zaz R c c:=⟨rfl,fun i h1 _=>by
 obtain ⟨n,e⟩:=h i h1
 rw [e]
 exact .int _ _⟩
end
end Go.Proofs.YtfbbcooklhmeaaaGreat
