/- Of the proof: Qx, Qy, Qz -/
import Derived.Test.YtdhopelplokehaaGreatDAk
import Derived.Test.YtdhopelplokehaaGreatDAl
import Derived.Test.YtdhopelplokehaaGreatDBh
import Derived.Test.YtdhopelplokehaaGreatDBo
import Derived.Test.YtdhopelplokehaaGreatDBp
set_option maxHeartbeats 2000000
namespace Go.Proofs.YtdhopelplokehaaGreat
section
open Go Go.Conc Go.ConcN Go.RowKit Go.Conc.Lib Go.ConcR.Gen Go.ConcN.Gen
open Go.ConcR (KK wgBlock WgAt stA smA rd wr mk Payload Aside2 DC0)
theorem no_other:xOther=false:=rfl
def rng (R:BR):Nat->Prop:=fun c=>∃ b,R b c
theorem ARel.snd {R:BR} {a c:Addr} (h:ARel R a c):ARel (idOn (rng R)) c c:=⟨⟨rfl,_,h.1⟩,rfl,rfl⟩
theorem slice_snd {R:BR} {ga ga':Option Addr} {n m:Nat} (h:VRel R (.slice ga n m) (.slice ga' n m)):VRel (idOn (rng R)) (.slice ga' n m) (.slice ga' n m):=by
 cases h with
 | slice _ _ h=>exact .slice _ _ h.snd
 | nilSlice _ _=>exact .nilSlice _ _
theorem rng_closed {N:Nat} {R:BR} {w w':World} (h:WRel N R w w'):Closed (rng R) w':=by
 rintro c ⟨b,hb⟩
 obtain ⟨o,o',_,e2,ho⟩:=h.blk b c hb
 cases ho with
 | cells hr _ _=>exact .inl ⟨_,_,_,e2,no_other⟩
 | other hj _ =>
  cases hj with
  | map hx _=>rw [no_other] at hx; cases hx
  | number ha=>exact .inr ⟨no_other,_,_,e2,ha.snd⟩
open Classical in
noncomputable def held (K:Nat->Prop) (w:World):List (Nat × Obj):=(List.range w.heap.size).filterMap fun c=>if K c then (w.heap[c]?).map fun o=>(c,o) else none
theorem mem_held {K:Nat->Prop} {w:World} {p:Nat × Obj}:p ∈ held K w ↔ K p.1/\w.heap[p.1]?=some p.2:=by
 classical
 unfold held
 simp only [List.mem_filterMap,List.mem_range]
 constructor
 ·rintro ⟨c,_,h⟩
  split at h
  ·rename_i hk
   obtain ⟨o,ho,rfl⟩:=Option.map_eq_some_iff.1 h
   exact ⟨hk,ho⟩
  ·cases h
 ·rintro ⟨hk,ho⟩
  refine ⟨p.1,(Array.getElem?_eq_some_iff.1 ho).1,?_⟩
  rw [if_pos hk,ho]
  rfl
theorem hp_held (K:Nat->Prop) (w:World):Hp (held K w) w:=fun _ h=>(mem_held.1 h).2
theorem held_closed {K:Nat->Prop} {w w1:World} (h:Closed K w) (hp:Hp (held K w) w1):Closed K w1:=fun b hb=>by
 rcases h b hb with ⟨c,e,f,hx,hr⟩ | ⟨ho,a,l,hx,hr⟩
 ·exact .inl ⟨c,e,f,hp (b,_) (mem_held.2 ⟨hb,hx⟩),hr⟩
 ·exact .inr ⟨ho,a,l,hp (b,_) (mem_held.2 ⟨hb,hx⟩),hr⟩
theorem cells_frz {w w1:World} {a:Option Addr} {cs:List (Int × Int)} (h:Sp.CellsAt w a cs) (hb:∀ b off,a=some ⟨b,off,none⟩->w1.heap[b]?=w.heap[b]?) (τ:Nat->Question->Nat) (d:Nat):Sp.CellsAt (w1.frz.tp τ d) a cs:=by
 rcases h with h | ⟨b,off,rfl,hl,hc⟩
 ·exact .inl h
 ·have e:=hb b off rfl
  have hc1:∀ i,w1.cell? ⟨b,i,none⟩=w.cell? ⟨b,i,none⟩:=fun i=>by simp only [World.cell?,e]
  have hc2:∀ i (x:Int),w.cell? ⟨b,i,none⟩=some (.int .i64 x)->(w1.frz.tp τ d).cell? ⟨b,i,none⟩=some (.int .i64 x):=fun i x h=>by
   have q:=frz_cell w1 ⟨b,i,none⟩
   rw [hc1,h] at q
   exact q
  refine .inr ⟨b,off,rfl,?_,fun i hi=>⟨hc2 _ _ (hc i hi).1,hc2 _ _ (hc i hi).2⟩⟩
  show b < w1.frz.heap.size
  rw [frz_size]
  rw [Array.getElem?_eq_getElem hl] at e
  exact (Array.getElem?_eq_some_iff.1 e).1
theorem cells_list {w:World} {ga:Option Addr} {n:Nat} (h:∀ j,j < n->∃ b off c e z x y,ga=some ⟨b,off,none⟩/\w.heap[b]?=some (.cells c e z)/\c[off + j * 2]?=some (.int .i64 x)/\c[off + j * 2 + 1]?=some (.int .i64 y)) :
  ∃ cs:List (Int × Int),cs.length=n/\Sp.CellsAt w ga cs:=by
 classical
 have hx:∀ j:Fin n,∃ p:Int × Int,∃ b off c e z,ga=some ⟨b,off,none⟩/\w.heap[b]?=some (.cells c e z)/\c[off + j.val * 2]?=some (.int .i64 p.1)/\c[off + j.val * 2 + 1]?=some (.int .i64 p.2):=fun j=>by
  obtain ⟨b,off,c,e,z,x,y,h1,h2,h3,h4⟩:=h j.val j.isLt
  exact ⟨(x,y),b,off,c,e,z,h1,h2,h3,h4⟩
 obtain ⟨f,hf⟩:=Classical.axiomOfChoice hx
 refine ⟨List.ofFn f,by simp,?_⟩
 by_cases hn:n=0
 ·subst hn; exact .inl (by simp)
 ·obtain ⟨b,off,c,e,z,h1,h2,_,_⟩:=hf ⟨0,by omega⟩
  refine .inr ⟨b,off,h1,(Array.getElem?_eq_some_iff.1 h2).1,fun i hi=>?_⟩
  have hi':i < n:=by simpa using hi
  obtain ⟨b1,off1,c1,e1,z1,q1,q2,q3,q4⟩:=hf ⟨i,hi'⟩
  rw [h1] at q1
  cases q1
  rw [h2] at q2
  cases q2
  have eg:(List.ofFn f).getD i (0,0)=f ⟨i,hi'⟩:=by simp [List.getD,hi']
  rw [eg]
  exact ⟨by simp only [World.cell?,h2]; exact q3,by simp only [World.cell?,h2]; exact q4⟩
theorem cells_other {N:Nat} {R:BR} {w w':World} (hw:WRel N R w w') {ga ga':Option Addr} {n m:Nat} (hv:VRel R (.slice ga n m) (.slice ga' n m)) {cs:List (Int × Int)} (h:Sp.CellsAt w ga cs):Sp.CellsAt w' ga' cs:=by
 rcases h with h | ⟨b,off,rfl,hl,hc⟩
 ·exact .inl h
 ·cases hv with
  | slice _ _ ha =>
   rename_i ad'
   obtain ⟨b',off',sp'⟩:=ad'
   obtain ⟨h1,h2,h3⟩:=ha
   simp only at h1 h2 h3
   subst h2 h3
   refine .inr ⟨b',off,rfl,(hw.lt h1).2,fun i hi=>?_⟩
   obtain ⟨c1,c2⟩:=hc i hi
   obtain ⟨v1,e1,r1⟩:=hw.cell (a:=⟨b,off + i * 2,none⟩) (c:=⟨b',off + i * 2,none⟩) ⟨h1,rfl,rfl⟩ c1
   obtain ⟨v2,e2,r2⟩:=hw.cell (a:=⟨b,off + i * 2 + 1,none⟩) (c:=⟨b',off + i * 2 + 1,none⟩) ⟨h1,rfl,rfl⟩ c2
   rw [e1,e2]
   exact ⟨congrArg some (vrel_int r1),congrArg some (vrel_int r2)⟩
end
section
open Go Go.Conc Go.ConcN Go.RowKit Go.Conc.Lib Go.ConcR.Gen Go.ConcN.Gen
open Go.ConcR (KK wgBlock WgAt stA smA rd wr mk Payload Aside2 DC0)
instance SqP.twin:Twin3 SqP.prog Tryz.prog:=Sq.okP.twin3
instance SqP.self:Twin3 SqP.prog SqP.prog:=Sq.okP.self
instance SqN.twin:Twin3 SqN.prog Tryz.prog:=Sq.okN.twin3
instance SqN.self:Twin3 SqN.prog SqN.prog:=Sq.okN.self
theorem SqP.whole:Whole SqP.prog:=Sq.okP.whole Sq.ckP
theorem SqN.whole:Whole SqN.prog:=Sq.okN.whole Sq.ckN
theorem SqP.bodies:Bodies SqP.prog Tryz.prog (fun i=>Sq.X i=true):=Sq.okP.bodies Sq.ckP
theorem SqN.bodies:Bodies SqN.prog Tryz.prog (fun _=>false=true):=Sq.okN.bodies Sq.ckN
def sF (W H:Nat) (i:Nat):Nat:=if i=0 then 0 else if i=1 then W else if i=2 then W + H else W + H + W
def sE (W H:Nat) (i:Nat):Nat:=if i=0 then W else if i=1 then W + H else if i=2 then W + H + W else W + H + W + H
theorem sides_rng (W H:Nat):Rng 4 (sF W H) (sE W H):=by
 intro i i' k h1 h2 h3 h4 h5 h6
 rcases (show i=0\/i=1\/i=2\/i=3 by omega) with rfl | rfl | rfl | rfl <;> rcases (show i'=0\/i'=1\/i'=2\/i'=3 by omega) with rfl | rfl | rfl | rfl <;> first
  | rfl
  | (exfalso; simp [sF,sE] at h3 h4 h5 h6; omega)
  | (exfalso; simp [sF,sE] at h3 h4 h6; omega)
  | (exfalso; simp [sF,sE] at h4 h5 h6; omega)
section
variable {Goal:Machine->Trace->Prop} {Shun:Nat->Prop} {c:Frame} {cs:List Frame}
set_option maxRecDepth 100000 in
theorem rows_yes (hG:∀ n m t m' t',runNT Tryz.prog n m t=(.next m',t')->Goal m' t'->Goal m t) {W H:Nat} {ga:Option Addr} {cap:Nat} {gs:List (Int × Int)} {l0:List (Nat × Obj)} {Kc:Nat->Prop}
  (hok:Sp.okG (W:Int) gs=true) (hW:1<=W/\W<=5) (hH:1<=H/\H<=5) (el:gs.length=W * H) (hHd:gs.length / W=H) (hHI:(gs.length:Int) / (W:Int)=(H:Int))
  (hl0:∀ p ∈ l0,Kc p.1) (hcl:∀ w,Hp l0 w->Closed Kc w) (hKl:∀ c,Kc c->∃ p ∈ l0,p.1=c) (hga:VRel (idOn Kc) (.slice ga gs.length cap) (.slice ga gs.length cap))
  (hC:∀ w,Hp l0 w->∀ τ d,Sp.CellsAt (w.frz.tp τ d) ga gs)
  (w:World) (hp0:Hp l0 w) (hKc:∀ c,Kc c->c < w.heap.size/\¬ Shun c)
  (hfin:∀ (u:World) (bo:Nat),KeepB (fun e=>e < w.heap.size/\¬ Shun e) w u->w.heap.size<=bo->u.heap[bo]?=some (Sp.picCells (W:Int) gs (2 * (W + H)))->∀ Shun':Nat->Prop,(∀ e,Shun' e->Shun e\/w.heap.size<=e)->¬ Shun' bo->Leads Tryz.prog Goal Shun' (fun _=>False) (G (c.finish (.slice (some ⟨bo,0,none⟩) (2 * (W + H)) (2 * (W + H)))) cs) u) :
  Leads Tryz.prog Goal Shun (fun _=>False) (G (Frame.enter Tryz.prog 39 #[.agg #[.int .i64 (W:Int),.slice ga gs.length cap],.func (.func 15) #[] #[]] .normal) (c :: cs)) w:=by
 haveI:Payload:=⟨0⟩
 obtain ⟨W1,W5⟩:=hW
 obtain ⟨H1,H5⟩:=hH
 have hn25:gs.length<=25:=by rw [el]; exact Nat.le_trans (Nat.mul_le_mul W5 H5) (by omega)
 have hM:Sp.manyG (W:Int) gs=((2 * (W + H):Nat):Int):=by rw [Sp.manyG_ok hok hHI]; omega
 have hside:Sp.sidesA (W:Int) (H:Int) (gs.length:Int)=#[.int .i64 ((sF W H 0:Nat):Int),.int .i64 (W:Int),.int .i64 0,.int .i64 1,.int .i64 2,.int .i64 0,.int .i64 ((sF W H 1:Nat):Int),.int .i64 (H:Int),.int .i64 ((W:Int) - 1),.int .i64 (W:Int),.int .i64 3,.int .i64 1,.int .i64 ((sF W H 2:Nat):Int),.int .i64 (W:Int),.int .i64 ((gs.length:Int) - 1),.int .i64 (-1),.int .i64 0,.int .i64 2,.int .i64 ((sF W H 3:Nat):Int),.int .i64 (H:Int),.int .i64 ((gs.length:Int) - 1 - (W:Int) + 1),.int .i64 (-(W:Int)),.int .i64 1,.int .i64 3]:=by
  simp [Sp.sidesA,sF]
 have hhas:∀ (f m s o i u:Int),0<=f/\f<=100->0<=m/\m<=100->∀ (k:Nat) (w:World),Calls SqN.prog 95 #[.agg #[.int .i64 f,.int .i64 m,.int .i64 s,.int .i64 o,.int .i64 i,.int .i64 u],.int .i64 k] w fun e _=>e=.returned (.bool (decide (f<=k/\(k:Int) < f + m))) :=
  fun f m s o i u h1 h2 k w=>(Sp.Sn.has_any f m s o i u k h1 h2 _ rfl w).mono fun e w' h=>h.1
 refine rows_leads (L:=SqN.prog) (X:=fun _=>false=true) (f0:=sF W H) (e0:=sE W H) (rows:=fun k=>Sp.lightN (W:Int) gs (k:Int)) (many:=2 * (W + H)) hG SqN.whole SqN.bodies (fun _ h=>by cases h) SqN.func44 (fun h=>by cases h) SqN.func16 (fun h=>by cases h) SqN.func60 (fun h=>by cases h) hl0 hcl hga
  (fun w hp τ d=>((Sp.Sn.implGridOk_any (W:Int) ga cap gs _ (hC w hp τ d) (by omega)).mono fun e w' h=>by rw [h.1,hok]))
  (fun w hp τ d=>((Sp.Sn.implMany_any (W:Int) ga cap gs _ (hC w hp τ d) (by omega)).mono fun e w' h=>by rw [h.1,hM]))
  (fun w hp τ d=>((Sp.Sn.sidesOf_any W H ga gs.length cap _ ⟨W1,W5⟩ ⟨H1,H5⟩ hn25 hHd).mono fun e w' h=>by rw [h.1,hside]))
  SqN.func95 (fun h=>by cases h) SqN.func15 Tryz.func15 rfl rfl (fun h=>by cases h) (by kernel_rfl) ?_ ?_ hKl ?_ ?_ ?_ ?_ ?_ ?_ ?_ ?_ ?_ ?_ ?_ ?_ ?_
  (fun k hk w hp τ d=>((Sp.Sn.implLight_any (W:Int) ga cap gs _ (hC w hp τ d) (by omega) (k:Int)).mono fun e w' h=>h.1)) ?_ (by omega) w hp0 hKc hfin
 ·exact sides_rng W H
 ·simp [sumTo,sF,sE]; omega
 ·simp [sF,sE]
 ·omega
 ·exact hhas _ _ _ _ _ _ (by simp [sF]) (by omega)
 ·simp [sF,sE]
 ·omega
 ·exact hhas _ _ _ _ _ _ (by simp [sF]; omega) (by omega)
 ·simp [sF,sE]
 ·omega
 ·exact hhas _ _ _ _ _ _ (by simp [sF]; omega) (by omega)
 ·simp [sF,sE]
 ·omega
 ·exact hhas _ _ _ _ _ _ (by simp [sF]; omega) (by omega)
 ·intro j hj
  unfold sE
  split <;> try omega
  split <;> try omega
  split <;> omega
 ·intro k hk
  by_cases h1:k < W
  ·exact ⟨0,by omega,by simp [sF],by simp [sE]; omega⟩
  ·by_cases h2:k < W + H
   ·exact ⟨1,by omega,by simp [sF]; omega,by simp [sE]; omega⟩
   ·by_cases h3:k < W + H + W
    ·exact ⟨2,by omega,by simp [sF]; omega,by simp [sE]; omega⟩
    ·exact ⟨3,by omega,by simp [sF]; omega,by simp [sE]; omega⟩
end
theorem ints_rel {R:BR} {c:Array Value} (h:∀ i (h:i < c.size),∃ n,c[i]=.int .i64 n):RRel R c c:=⟨rfl,fun i h1 _=>by
 obtain ⟨n,e⟩:=h i h1
 rw [e]
 exact .int _ _⟩
theorem tmps22 (v:Value):#[v] ++ Array.replicate (22 - #[v].size) undef=#[v,undef,undef,undef,undef,undef,undef,undef,undef,undef,undef,undef,undef,undef,undef,undef,undef,undef,undef,undef,undef,undef]:=by kernel_rfl
set_option maxRecDepth 100000 in
theorem pic_tells {FinP:Frame->World->Prop} {c:Frame} {cs:List Frame} {N:Nat} {R:BR} {wl w:World} {v v':Value} (hw:WRel N R (wl.tp w.tape w.drawn) w) (hv:VRel R v v') (tr:Tree SqP.prog FinP (Frame.enter SqP.prog 12 #[v] .normal) (c :: cs) wl) :
  ∃ wd ga ga' m gl,v=.agg #[.int .i64 wd,.slice ga (List.length gl) m]/\v'=.agg #[.int .i64 wd,.slice ga' gl.length m]/\gl.length < 4611686018427387904/\Sp.CellsAt wl ga gl/\VRel R (.slice ga gl.length m) (.slice ga' gl.length m):=by
 rw [enter_at _ SqP.func12 SqP.body12,SqP.ntmps12,tmps22] at tr
 have tr1:Tree (@Sq.prog Sq.P) FinP ((base 12).at ⟨#[v,undef,undef,undef,undef,undef,undef,undef,undef,undef,undef,undef,undef,undef,undef,undef,undef,undef,undef,undef,undef,undef],[]⟩ [.code (ckAll picRest)]) (c :: cs) wl:=tr
 have hrel:∀ n m ad,v.cells[1]?=some (.slice (some ad) n m)->∃ o,wl.heap[ad.block]?=some o/\∀ x y,o ≠ .view x y:=by
  intro n m ad hx
  have key:∀ u u',VRel R u u'->u=.slice (some ad) n m->∃ o,wl.heap[ad.block]?=some o/\∀ x y,o ≠ .view x y:=by
   intro u u' hu e
   subst e
   cases hu with
   | slice _ _ had =>
    obtain ⟨o,o',e1,_,ho⟩:=hw.blk _ _ had.1
    refine ⟨o,e1,fun x y e=>?_⟩
    subst e
    cases ho with
    | other hj _=>cases hj
  cases hv with
  | agg h1 h2 =>
   rename_i cc cc'
   have hx':cc[1]?=some (.slice (some ad) n m):=hx
   obtain ⟨hl,e⟩:=Array.getElem?_eq_some_iff.1 hx'
   exact key _ _ (h2 1 hl (by rw [<- h1]; exact hl)) e
  | _=>simp [Value.cells] at hx
 obtain ⟨wd,ga,n,m,rfl,hn62,hcells⟩:=@ck_tells Sq.P _ _ _ _ _ _ Sq.wholeP hrel tr1
 obtain ⟨ga',rfl,hgr⟩:∃ ga',v'=.agg #[.int .i64 wd,.slice ga' n m]/\VRel R (.slice ga n m) (.slice ga' n m):=by
  cases hv with
  | agg h1 h2 =>
   rename_i cc'
   have hs:cc'.size=2:=by rw [<- h1]; rfl
   have q0:=h2 0 (by simp) (by omega)
   have q1:=h2 1 (by simp) (by omega)
   have e0:=vrel_int q0
   have e1:∃ ga',cc'[1]'(by omega)=.slice ga' n m:=by
    have q1':VRel R (.slice ga n m) (cc'[1]'(by omega)):=q1
    revert q1'
    generalize cc'[1]'(by omega)=z
    intro q1'
    cases q1' with
    | slice _ _ _=>exact ⟨_,rfl⟩
    | nilSlice _ _=>exact ⟨_,rfl⟩
   obtain ⟨ga',e1⟩:=e1
   refine ⟨ga',congrArg Value.agg (Array.ext (by simp [hs]) fun i hi1 hi2=>?_),by rw [<- e1]; exact q1⟩
   have:i=0\/i=1:=by simp at hi2; omega
   rcases this with rfl | rfl
   ·exact e0
   ·exact e1
 obtain ⟨gl,hgl,hCl⟩:=cells_list hcells
 subst hgl
 exact ⟨wd,ga,ga',m,gl,rfl,rfl,hn62,hCl,hgr⟩
set_option maxRecDepth 100000 in
theorem pic_xok1 (N:Nat):XOk SqP.prog Tryz.prog (fun i=>i=12) N:=by
 intro FinP f a a' c c' cs cs' R wl w Shun gs t q sl hXf har ha hcs hw tr hB h0 hSh hN hShN hNw
 obtain rfl:f=12:=hXf
 have ha1:a.size=1:=by
  have e:arOk 12 a.size=(a.size == 1):=rfl
  rw [e] at har
  simpa using har
 obtain ⟨v,rfl⟩:∃ v,a=#[v]:=⟨a[0],Array.ext (by simp [ha1]) fun i h1 h2=>by
  have:i=0:=by simp at h2; omega
  subst this
  rfl⟩
 obtain ⟨v',rfl⟩:∃ v',a'=#[v']:=⟨a'[0]'(by rw [<- ha.1]; exact ha1 ▸ Nat.zero_lt_one),Array.ext (by simp [<- ha.1]) fun i h1 h2=>by
  have:i=0:=by simp at h2; omega
  subst this
  rfl⟩
 have hv:VRel R v v':=ha.2 0 (by simp) (by simp)
 have tr0:=tr
 obtain ⟨wd,ga,ga',m,gl,rfl,rfl,hn62,hCl,hgr⟩:=pic_tells hw hv tr
 clear tr
 have hCw:Sp.CellsAt w ga' gl:=cells_other (w:=wl.tp w.tape w.drawn) hw hgr (show Sp.CellsAt (wl.tp w.tape w.drawn) ga gl from hCl)
 refine (show Leads Tryz.prog (fun M t=>∃ (n:Nat) (gs':Array Goroutine) (w':World) (sl':Option (Nat × Nat)) (t':Trace) (q':Nat->Nat) (Shun':Nat->Prop) (R':BR) (v v':Value) (wl':World),
   runNT Tryz.prog n M t=(.next (crowd gs' w' sl'),t')/\gs'[0]?=some (G (c'.finish v') cs')/\Bes Tryz.prog Shun' gs' w' t' q'/\Desc SqP.prog (Frame.enter SqP.prog 12 #[.agg #[.int .i64 wd,.slice ga gl.length m]] .normal) (c :: cs) wl (c.finish v) cs wl'/\R.le R'/\VRel R' v v' /\
   WRel N R' (wl'.tp w'.tape w'.drawn) w'/\(∀ b c,R' b c->¬ Shun' c)/\(∀ b c,R' b c->N<=b->N<=c)/\(∀ c,Shun' c->N<=c)/\Below N w w') Shun (fun _=>False) (G (Frame.enter Tryz.prog 12 #[.agg #[.int .i64 wd,.slice ga' gl.length m]] .normal) (c' :: cs')) w from ?_) gs sl t q hB h0 (fun _ h=>h.elim)
 have hG:∀ (n:Nat) (M:Machine) (t:Trace) (M':Machine) (t':Trace),runNT Tryz.prog n M t=(.next M',t')->(∃ (n:Nat) (gs':Array Goroutine) (w':World) (sl':Option (Nat × Nat)) (t'':Trace) (q':Nat->Nat) (Shun':Nat->Prop) (R':BR) (v v':Value) (wl':World),
   runNT Tryz.prog n M' t'=(.next (crowd gs' w' sl'),t'')/\gs'[0]?=some (G (c'.finish v') cs')/\Bes Tryz.prog Shun' gs' w' t'' q'/\Desc SqP.prog (Frame.enter SqP.prog 12 #[.agg #[.int .i64 wd,.slice ga gl.length m]] .normal) (c :: cs) wl (c.finish v) cs wl'/\R.le R'/\VRel R' v v' /\
   WRel N R' (wl'.tp w'.tape w'.drawn) w'/\(∀ b c,R' b c->¬ Shun' c)/\(∀ b c,R' b c->N<=b->N<=c)/\(∀ c,Shun' c->N<=c)/\Below N w w')->(∃ (n:Nat) (gs':Array Goroutine) (w':World) (sl':Option (Nat × Nat)) (t'':Trace) (q':Nat->Nat) (Shun':Nat->Prop) (R':BR) (v v':Value) (wl':World),
   runNT Tryz.prog n M t=(.next (crowd gs' w' sl'),t'')/\gs'[0]?=some (G (c'.finish v') cs')/\Bes Tryz.prog Shun' gs' w' t'' q'/\Desc SqP.prog (Frame.enter SqP.prog 12 #[.agg #[.int .i64 wd,.slice ga gl.length m]] .normal) (c :: cs) wl (c.finish v) cs wl'/\R.le R'/\VRel R' v v' /\
   WRel N R' (wl'.tp w'.tape w'.drawn) w'/\(∀ b c,R' b c->¬ Shun' c)/\(∀ b c,R' b c->N<=b->N<=c)/\(∀ c,Shun' c->N<=c)/\Below N w w'):=by
  rintro n1 M t M' t' h1 ⟨n2,gs',w',sl',t'',q',Shun',R',v,v',wl',h2,h3⟩
  exact ⟨n1 + n2,gs',w',sl',t'',q',Shun',R',v,v',wl',by rw [runNT_add,h1]; exact h2,h3⟩
 have hKc:∀ e,rng R e->e < w.heap.size/\¬ Shun e:=fun e ⟨b,hb⟩=>⟨(hw.lt hb).2,hSh b e hb⟩
 have hcl:∀ w1,Hp (held (rng R) w) w1->Closed (rng R) w1:=fun w1 hp=>held_closed (rng_closed hw) hp
 have hC1:∀ w1,Hp (held (rng R) w) w1->∀ τ d,Sp.CellsAt (w1.frz.tp τ d) ga' gl:=fun w1 hp τ d=>cells_frz hCw (fun b off e=>by
  subst e
  have hb:rng R b:=by
   cases hgr with
   | slice _ _ had=>exact ⟨_,had.1⟩
  have hlt:=(hKc b hb).1
  have e2:w.heap[b]?=some w.heap[b]:=Array.getElem?_eq_getElem hlt
  rw [e2]
  exact hp (b,w.heap[b]) (mem_held.2 ⟨hb,e2⟩)) τ d
 have hold:∀ (wl1 u:World),Below wl.heap.size wl wl1->KeepB (fun e=>e < w.heap.size/\¬ Shun e) w u->∀ b e,R b e->∃ o o',wl1.heap[b]?=some o/\u.heap[e]?=some o'/\ORel R (b < N) o o':=fun wl1 u hb1 hk b e hbe=>by
  obtain ⟨o,o',e1,e2,ho⟩:=hw.blk b e hbe
  have hl:=hw.lt hbe
  exact ⟨o,o',(hb1.block b hl.1).trans e1,(hk.1 e ⟨hl.2,hSh b e hbe⟩).trans e2,ho⟩
 have hbelow:∀ u,KeepB (fun e=>e < w.heap.size/\¬ Shun e) w u->Below N w u:=fun u hk=>⟨hk.2.2.1,hk.2.1,hk.2.2.2.1,hk.2.2.2.2,fun e he=>hk.1 e ⟨by omega,fun h=>by have:=hShN e h; omega⟩⟩
 have hlow:N<=wl.heap.size:=hw.low
 rcases hk:Sp.okG wd gl with _ | _
 ·skip
  obtain ⟨vl,wl1,⟨rfl,hb1⟩,hd⟩:=tree_call tr0 (Post:=fun v w'=>v=.slice none 0 0/\Below wl.heap.size wl w') ((Sp.picNo_any wd ga m gl wl hCl hn62 hk).mono fun e w' h=>⟨_,h.1,rfl,h.2⟩)
  refine pic_leads (Fin:=fun _ v _ Sh=>v=.slice none 0 0/\Sh=Shun) (Out:=fun v _ Sh=>v=.slice none 0 0/\Sh=Shun) hG (fun p h=>(mem_held.1 h).1) (hp_held _ w) hKc ?_ (fun _ _ _ _ _ h _ _ _=>h) ?_
  ·intro c0 cs0 w0 hp hK0 _ hfin
   exact rows_none (L:=SqN.prog) (X:=fun _=>false=true) hG SqN.whole SqN.bodies (fun _ h=>by cases h) SqN.func44 (fun h=>by cases h) (fun p h=>(mem_held.1 h).1) hcl (slice_snd hgr) (fun w hp τ d=>((Sp.Sn.implGridOk_any wd ga' m gl _ (hC1 w hp τ d) (by omega)).mono fun e w' h=>by rw [h.1,hk])) w0 hp hK0 fun u hu=>hfin _ u Shun hu ⟨rfl,rfl⟩
  ·rintro v u Sh hu ⟨rfl,rfl⟩ gs1 sl1 t1 q1 hB1 h01 _
   refine ⟨0,gs1,u,sl1,t1,q1,Sh,R,.slice none 0 0,.slice none 0 0,wl1,rfl,h01,hB1,hd,BR.le_refl R,.nilSlice 0 0,⟨hw.one,hold wl1 u hb1 hu,rfl,rfl,?_⟩,hSh,hN,hShN,hbelow u hu⟩
   have:=hb1.size
   show N<=wl1.heap.size
   omega
 ·skip
  obtain ⟨W,H,rfl,h1,h2,h3,h4,el,hH,hHI⟩:=Sp.okG_nat wd gl hk
  have hM:Sp.manyG (W:Int) gl=((2 * (W + H):Nat):Int):=by rw [Sp.manyG_ok hk hHI]; omega
  obtain ⟨vl,wl1,⟨g,rfl,hg,hgc,hb1⟩,hd⟩:=tree_call tr0 (Post:=fun v w'=>∃ g,v=.slice (some ⟨g,0,none⟩) (2 * (W + H)) (2 * (W + H))/\wl.heap.size<=g/\w'.heap[g]?=some (Sp.picCells (W:Int) gl (2 * (W + H)))/\Below wl.heap.size wl w') ((Sp.picYes_any (W:Int) ga m gl wl hCl hk (2 * (W + H)) hM).mono fun e w' ⟨g,q1,q2⟩=>⟨_,q1,g,rfl,q2⟩)
  refine pic_leads (Fin:=fun w0 v u Sh=>∃ bo,v=.slice (some ⟨bo,0,none⟩) (2 * (W + H)) (2 * (W + H))/\w0.heap.size<=bo/\u.heap[bo]?=some (Sp.picCells (W:Int) gl (2 * (W + H)))/\(∀ e,Sh e->Shun e\/w0.heap.size<=e)/\¬ Sh bo) (Out:=fun v u Sh=>∃ bo,v=.slice (some ⟨bo,0,none⟩) (2 * (W + H)) (2 * (W + H))/\w.heap.size<=bo/\u.heap[bo]?=some (Sp.picCells (W:Int) gl (2 * (W + H)))/\(∀ e,Sh e->Shun e\/w.heap.size<=e)/\¬ Sh bo) hG (fun p h=>(mem_held.1 h).1) (hp_held _ w) hKc ?_ ?_ ?_
  ·intro c0 cs0 w0 hp hK0 _ hfin
   exact rows_yes hG hk ⟨h1,h2⟩ ⟨h3,h4⟩ el hH hHI (fun p h=>(mem_held.1 h).1) hcl (fun e he=>⟨(e,w.heap[e]'(hKc e he).1),mem_held.2 ⟨he,Array.getElem?_eq_getElem (hKc e he).1⟩,rfl⟩) (slice_snd hgr) hC1 w0 hp hK0 fun u bo hu hbo hc Sh hS hnb=>hfin _ u Sh hu ⟨bo,rfl,hbo,hc,hS,hnb⟩
  ·rintro w0 v u u2 Sh ⟨bo,rfl,q1,q2,q3,q4⟩ hz hkeep hsz
   exact ⟨bo,rfl,by omega,(hkeep bo (Array.getElem?_eq_some_iff.1 q2).1).trans q2,fun e he=>(q3 e he).imp id fun h=>by omega,q4⟩
  ·rintro v u Sh hu ⟨bo,rfl,q1,q2,q3,q4⟩ gs1 sl1 t1 q' hB1 h01 _
   have hone:(R.more g bo).One:=by
    refine ⟨fun b e e' x y=>?_,fun b b' e x y=>?_⟩
    ·rcases x with x | ⟨rfl,rfl⟩
     ·rcases y with y | ⟨rfl,rfl⟩
      ·exact hw.one.1 _ _ _ x y
      ·have:b < wl.heap.size:=(hw.lt x).1
       omega
     ·rcases y with y | ⟨_,rfl⟩
      ·have:b < wl.heap.size:=(hw.lt y).1
       omega
      ·rfl
    ·rcases x with x | ⟨rfl,rfl⟩
     ·rcases y with y | ⟨rfl,rfl⟩
      ·exact hw.one.2 _ _ _ x y
      ·have:=(hw.lt x).2
       omega
     ·rcases y with y | ⟨rfl,_⟩
      ·have:=(hw.lt y).2
       omega
      ·rfl
   have hle:R.le (R.more g bo):=⟨fun _ _ h=>Or.inl h,fun _=>hone⟩
   refine ⟨0,gs1,u,sl1,t1,q',Sh,R.more g bo,.slice (some ⟨g,0,none⟩) (2 * (W + H)) (2 * (W + H)),.slice (some ⟨bo,0,none⟩) (2 * (W + H)) (2 * (W + H)),wl1,rfl,h01,hB1,hd,hle,.slice _ _ ⟨.inr ⟨rfl,rfl⟩,rfl,rfl⟩,⟨hone,?_,rfl,rfl,?_⟩,?_,?_,?_,hbelow u hu⟩
   ·intro b e hbe
    rcases hbe with hbe | ⟨rfl,rfl⟩
    ·obtain ⟨o,o',e1,e2,ho⟩:=hold wl1 u hb1 hu b e hbe
     exact ⟨o,o',e1,e2,ho.mono hle⟩
    ·exact ⟨_,_,hgc,q2,.cells (ints_rel fun i h=>⟨Sp.lightN (W:Int) gl ((i:Nat):Int),by simp⟩) (fun h=>by omega) (fun _=>rfl)⟩
   ·have:=hb1.size
    show N<=wl1.heap.size
    omega
   ·intro b e hbe hs
    rcases hbe with hbe | ⟨rfl,rfl⟩
    ·rcases q3 e hs with x | x
     ·exact hSh b e hbe x
     ·have:=(hw.lt hbe).2
      omega
    ·exact q4 hs
   ·intro b e hbe hb
    rcases hbe with hbe | ⟨rfl,rfl⟩
    ·exact hN b e hbe hb
    ·omega
   ·intro e he
    rcases q3 e he with x | x
    ·exact hShN e x
    ·omega
end
section
open Go Go.Conc Go.ConcN Go.RowKit Go.Conc.Lib Go.ConcR.Gen Go.ConcN.Gen
open Go.ConcR (KK wgBlock WgAt stA smA rd wr mk Payload Aside2 DC0)
def RowT (wd:Int) (gl:List (Int × Int)) (M:Nat):Nat->Value->List (Nat × Obj)->Prop:=fun k x bs=>∃ b,x=.slice (some ⟨b,0,none⟩) M M/\bs=[(b,.cells (Array.ofFn fun j:Fin M=>.int .i64 (Sp.toN wd gl (k:Int) ((j:Nat):Int))) 3)]
def PostT (wd:Int) (gl:List (Int × Int)) (M:Nat):Nat->World->Value->World->Prop:=fun k w0 v wl=>∃ g,v=.slice (some ⟨g,0,none⟩) M M/\w0.heap.size<=g/\wl.heap[g]?=some (.cells (Array.ofFn fun j:Fin M=>.int .i64 (Sp.toN wd gl (k:Int) ((j:Nat):Int))) 3)
theorem rowT_of {wd:Int} {gl:List (Int × Int)} {M:Nat} (k:Nat) (w0:World) (v v':Value) (R:BR) (wl w₁:World) (hp:PostT wd gl M k w0 v wl) (hv:VRel R v v') (hw:WRel w0.heap.size R wl w₁):∃ bs,RowT wd gl M k v' bs/\Hp bs w₁/\∀ p ∈ bs,ownOf w0.heap.size R p.1:=by
 obtain ⟨g,rfl,hg,hc⟩:=hp
 cases hv with
 | slice _ _ had =>
  rename_i a'
  obtain ⟨c,o,s⟩:=a'
  obtain ⟨h1,h2,h3⟩:=had
  simp only at h1 h2 h3
  subst h2
  subst h3
  obtain ⟨ob,ob',e1,e2,ho⟩:=hw.blk g c h1
  rw [hc] at e1
  cases e1
  cases ho with
  | cells hr _ hf =>
   have hf':=hf (by omega)
   subst hf'
   have e:=ints_eq hr.1 hr.2 (fun i h=>⟨Sp.toN wd gl (k:Int) ((i:Nat):Int),by simp⟩)
   subst e
   exact ⟨_,⟨c,rfl,rfl⟩,fun p hp=>by simp at hp; subst hp; exact e2,fun p hp=>by simp at hp; subst hp; exact ⟨g,h1,hg⟩⟩
  | other hj _=>cases hj
section
variable {Goal:Machine->Trace->Prop} {Shun:Nat->Prop} {c:Frame} {cs:List Frame}
set_option maxRecDepth 100000 in
theorem rows_yesR (hG:∀ n m t m' t',runNT Tryz.prog n m t=(.next m',t')->Goal m' t'->Goal m t) {W H:Nat} {ga:Option Addr} {cap:Nat} {gs:List (Int × Int)} {l0:List (Nat × Obj)} {Kc:Nat->Prop}
  (hok:Sp.okG (W:Int) gs=true) (hW:1<=W/\W<=5) (hH:1<=H/\H<=5) (el:gs.length=W * H) (hHd:gs.length / W=H) (hHI:(gs.length:Int) / (W:Int)=(H:Int))
  (hl0:∀ p ∈ l0,Kc p.1) (hcl:∀ w,Hp l0 w->Closed Kc w) (hKl:∀ c,Kc c->∃ p ∈ l0,p.1=c) (hga:VRel (idOn Kc) (.slice ga gs.length cap) (.slice ga gs.length cap))
  (hC:∀ w,Hp l0 w->∀ τ d,Sp.CellsAt (w.frz.tp τ d) ga gs)
  (w:World) (hp0:Hp l0 w) (hKc:∀ c,Kc c->c < w.heap.size/\¬ Shun c)
  (hfin:∀ (u:World) (bo:Nat) (xs:Nat->Value) (bsf:Nat->List (Nat × Obj)),KeepB (fun e=>e < w.heap.size/\¬ Shun e) w u->w.heap.size<=bo->u.heap[bo]?=some (.cells (Array.ofFn fun k:Fin (2 * (W + H))=>xs k) 27) ->
   (∀ k,k < 2 * (W + H)->RowT (W:Int) gs (2 * (W + H)) k (xs k) (bsf k)/\Hp (bsf k) u/\∀ p ∈ bsf k,w.heap.size<=p.1/\p.1 ≠ bo)->(∀ k k' p p',k < 2 * (W + H)->k' < 2 * (W + H)->p ∈ bsf k->p' ∈ bsf k'->p.1=p'.1->k=k') ->
   ∀ Shun':Nat->Prop,(∀ e,Shun' e->Shun e\/w.heap.size<=e)->¬ Shun' bo->(∀ k,k < 2 * (W + H)->∀ p ∈ bsf k,¬ Shun' p.1)->Leads Tryz.prog Goal Shun' (fun _=>False) (G (c.finish (.slice (some ⟨bo,0,none⟩) (2 * (W + H)) (2 * (W + H)))) cs) u) :
  Leads Tryz.prog Goal Shun (fun _=>False) (G (Frame.enter Tryz.prog 48 #[.agg #[.int .i64 (W:Int),.slice ga gs.length cap],.func (.func 49) #[] #[]] .normal) (c :: cs)) w:=by
 haveI:Payload:=⟨0⟩
 obtain ⟨W1,W5⟩:=hW
 obtain ⟨H1,H5⟩:=hH
 have hn25:gs.length<=25:=by rw [el]; exact Nat.le_trans (Nat.mul_le_mul W5 H5) (by omega)
 have hM:Sp.manyG (W:Int) gs=((2 * (W + H):Nat):Int):=by rw [Sp.manyG_ok hok hHI]; omega
 have hside:Sp.sidesA (W:Int) (H:Int) (gs.length:Int)=#[.int .i64 ((sF W H 0:Nat):Int),.int .i64 (W:Int),.int .i64 0,.int .i64 1,.int .i64 2,.int .i64 0,.int .i64 ((sF W H 1:Nat):Int),.int .i64 (H:Int),.int .i64 ((W:Int) - 1),.int .i64 (W:Int),.int .i64 3,.int .i64 1,.int .i64 ((sF W H 2:Nat):Int),.int .i64 (W:Int),.int .i64 ((gs.length:Int) - 1),.int .i64 (-1),.int .i64 0,.int .i64 2,.int .i64 ((sF W H 3:Nat):Int),.int .i64 (H:Int),.int .i64 ((gs.length:Int) - 1 - (W:Int) + 1),.int .i64 (-(W:Int)),.int .i64 1,.int .i64 3]:=by
  simp [Sp.sidesA,sF]
 have hhas:∀ (f m s o i u:Int),0<=f/\f<=100->0<=m/\m<=100->∀ (k:Nat) (w:World),Calls SqN.prog 95 #[.agg #[.int .i64 f,.int .i64 m,.int .i64 s,.int .i64 o,.int .i64 i,.int .i64 u],.int .i64 k] w fun e _=>e=.returned (.bool (decide (f<=k/\(k:Int) < f + m))) :=
  fun f m s o i u h1 h2 k w=>(Sp.Sn.has_any f m s o i u k h1 h2 _ rfl w).mono fun e w' h=>h.1
 refine R2.rows_leadsR (L:=SqN.prog) (X:=fun _=>false=true) (f0:=sF W H) (e0:=sE W H) (Post:=PostT (W:Int) gs (2 * (W + H))) (RowP:=RowT (W:Int) gs (2 * (W + H))) (many:=2 * (W + H)) hG SqN.whole SqN.bodies (fun _ h=>by cases h) SqN.func44 (fun h=>by cases h) SqN.func16 (fun h=>by cases h) SqN.func60 (fun h=>by cases h) hl0 hcl hga
  (fun w hp τ d=>((Sp.Sn.implGridOk_any (W:Int) ga cap gs _ (hC w hp τ d) (by omega)).mono fun e w' h=>by rw [h.1,hok]))
  (fun w hp τ d=>((Sp.Sn.implMany_any (W:Int) ga cap gs _ (hC w hp τ d) (by omega)).mono fun e w' h=>by rw [h.1,hM]))
  (fun w hp τ d=>((Sp.Sn.sidesOf_any W H ga gs.length cap _ ⟨W1,W5⟩ ⟨H1,H5⟩ hn25 hHd).mono fun e w' h=>by rw [h.1,hside]))
  SqN.func95 (fun h=>by cases h) SqN.func49 Tryz.func49 rfl rfl (fun h=>by cases h) (by kernel_rfl) ?_ ?_ hKl ?_ ?_ ?_ ?_ ?_ ?_ ?_ ?_ ?_ ?_ ?_ ?_ ?_
  (fun k hk w hp τ d=>((Sp.Sn.leaveRow_any (W:Int) ga cap gs _ (hC w hp τ d) (by omega) (k:Int) (2 * (W + H)) hM (by omega)).mono fun e w' ⟨g,h1,h2,h3,_⟩=>⟨_,h1,g,rfl,(frz_size w ▸ h2:w.heap.size<=g),h3.whole⟩)) (fun _ _ _ _ _ _ h=>h) rowT_of (fun k x bs ⟨b,e,_⟩=>⟨_,_,_,e⟩) ?_ (by omega) w hp0 hKc hfin
 ·exact sides_rng W H
 ·simp [sumTo,sF,sE]; omega
 ·simp [sF,sE]
 ·omega
 ·exact hhas _ _ _ _ _ _ (by simp [sF]) (by omega)
 ·simp [sF,sE]
 ·omega
 ·exact hhas _ _ _ _ _ _ (by simp [sF]; omega) (by omega)
 ·simp [sF,sE]
 ·omega
 ·exact hhas _ _ _ _ _ _ (by simp [sF]; omega) (by omega)
 ·simp [sF,sE]
 ·omega
 ·exact hhas _ _ _ _ _ _ (by simp [sF]; omega) (by omega)
 ·intro j hj
  unfold sE
  split <;> try omega
  split <;> try omega
  split <;> omega
 ·intro k hk
  by_cases h1:k < W
  ·exact ⟨0,by omega,by simp [sF],by simp [sE]; omega⟩
  ·by_cases h2:k < W + H
   ·exact ⟨1,by omega,by simp [sF]; omega,by simp [sE]; omega⟩
   ·by_cases h3:k < W + H + W
    ·exact ⟨2,by omega,by simp [sF]; omega,by simp [sE]; omega⟩
    ·exact ⟨3,by omega,by simp [sF]; omega,by simp [sE]; omega⟩
end
set_option maxRecDepth 100000 in
theorem to_tells {FinP:Frame->World->Prop} {c:Frame} {cs:List Frame} {N:Nat} {R:BR} {wl w:World} {v v':Value} (hw:WRel N R (wl.tp w.tape w.drawn) w) (hv:VRel R v v') (tr:Tree SqP.prog FinP (Frame.enter SqP.prog 22 #[v] .normal) (c :: cs) wl) :
  ∃ wd ga ga' m gl,v=.agg #[.int .i64 wd,.slice ga (List.length gl) m]/\v'=.agg #[.int .i64 wd,.slice ga' gl.length m]/\gl.length < 4611686018427387904/\Sp.CellsAt wl ga gl/\VRel R (.slice ga gl.length m) (.slice ga' gl.length m):=by
 rw [enter_at _ SqP.func22 SqP.body22,SqP.ntmps22,tmps22] at tr
 have tr1:Tree (@Sq.prog Sq.P) FinP ((base 22).at ⟨#[v,undef,undef,undef,undef,undef,undef,undef,undef,undef,undef,undef,undef,undef,undef,undef,undef,undef,undef,undef,undef,undef],[]⟩ [.code (ckAll toRest)]) (c :: cs) wl:=tr
 have hrel:∀ n m ad,v.cells[1]?=some (.slice (some ad) n m)->∃ o,wl.heap[ad.block]?=some o/\∀ x y,o ≠ .view x y:=by
  intro n m ad hx
  have key:∀ u u',VRel R u u'->u=.slice (some ad) n m->∃ o,wl.heap[ad.block]?=some o/\∀ x y,o ≠ .view x y:=by
   intro u u' hu e
   subst e
   cases hu with
   | slice _ _ had =>
    obtain ⟨o,o',e1,_,ho⟩:=hw.blk _ _ had.1
    refine ⟨o,e1,fun x y e=>?_⟩
    subst e
    cases ho with
    | other hj _=>cases hj
  cases hv with
  | agg h1 h2 =>
   rename_i cc cc'
   have hx':cc[1]?=some (.slice (some ad) n m):=hx
   obtain ⟨hl,e⟩:=Array.getElem?_eq_some_iff.1 hx'
   exact key _ _ (h2 1 hl (by rw [<- h1]; exact hl)) e
  | _=>simp [Value.cells] at hx
 obtain ⟨wd,ga,n,m,rfl,hn62,hcells⟩:=@ck_tells Sq.P _ _ _ _ _ _ Sq.wholeP hrel tr1
 obtain ⟨ga',rfl,hgr⟩:∃ ga',v'=.agg #[.int .i64 wd,.slice ga' n m]/\VRel R (.slice ga n m) (.slice ga' n m):=by
  cases hv with
  | agg h1 h2 =>
   rename_i cc'
   have hs:cc'.size=2:=by rw [<- h1]; rfl
   have q0:=h2 0 (by simp) (by omega)
   have q1:=h2 1 (by simp) (by omega)
   have e0:=vrel_int q0
   have e1:∃ ga',cc'[1]'(by omega)=.slice ga' n m:=by
    have q1':VRel R (.slice ga n m) (cc'[1]'(by omega)):=q1
    revert q1'
    generalize cc'[1]'(by omega)=z
    intro q1'
    cases q1' with
    | slice _ _ _=>exact ⟨_,rfl⟩
    | nilSlice _ _=>exact ⟨_,rfl⟩
   obtain ⟨ga',e1⟩:=e1
   refine ⟨ga',congrArg Value.agg (Array.ext (by simp [hs]) fun i hi1 hi2=>?_),by rw [<- e1]; exact q1⟩
   have:i=0\/i=1:=by simp at hi2; omega
   rcases this with rfl | rfl
   ·exact e0
   ·exact e1
 obtain ⟨gl,hgl,hCl⟩:=cells_list hcells
 subst hgl
 exact ⟨wd,ga,ga',m,gl,rfl,rfl,hn62,hCl,hgr⟩
structure RealR (wd:Int) (gl:List (Int × Int)) (M:Nat) (Shun:Nat->Prop) (lo:Nat) (v:Value) (u:World) (Sh:Nat->Prop) (bo:Nat) (bf:Nat->Nat):Prop where
 val:v=.slice (some ⟨bo,0,none⟩) M M
 low:lo<=bo
 all:u.heap[bo]?=some (.cells (Array.ofFn fun k:Fin M=>.slice (some ⟨bf k,0,none⟩) M M) 27)
 row:∀ k,k < M->u.heap[bf k]?=some (.cells (Array.ofFn fun j:Fin M=>.int .i64 (Sp.toN wd gl (k:Int) ((j:Nat):Int))) 3)/\lo<=bf k/\bf k ≠ bo/\¬ Sh (bf k)
 inj:∀ k k',k < M->k' < M->bf k=bf k'->k=k'
 shun:∀ e,Sh e->Shun e\/lo<=e
 no:¬ Sh bo
theorem RealR.keep {wd:Int} {gl:List (Int × Int)} {M lo lo':Nat} {Shun Sh:Nat->Prop} {v:Value} {u u2:World} {bo:Nat} {bf:Nat->Nat} (h:RealR wd gl M Shun lo v u Sh bo bf) (hz:lo'<=lo) (hk:∀ e,e < u.heap.size->u2.heap[e]?=u.heap[e]?):RealR wd gl M Shun lo' v u2 Sh bo bf:=by
 obtain ⟨h1,h2,h3,h4,h5,h6,h7⟩:=h
 exact ⟨h1,Nat.le_trans hz h2,(hk bo (Array.getElem?_eq_some_iff.1 h3).1).trans h3,fun k hk1=>⟨(hk _ (Array.getElem?_eq_some_iff.1 (h4 k hk1).1).1).trans (h4 k hk1).1,Nat.le_trans hz (h4 k hk1).2.1,(h4 k hk1).2.2⟩,h5,fun e he=>(h6 e he).imp id (Nat.le_trans hz),h7⟩
set_option maxRecDepth 100000 in
theorem to_xok1 (N:Nat):XOk SqP.prog Tryz.prog (fun i=>i=22) N:=by
 intro FinP f a a' c c' cs cs' R wl w Shun gs t q sl hXf har ha hcs hw tr hB h0 hSh hN hShN hNw
 obtain rfl:f=22:=hXf
 have ha1:a.size=1:=by
  have e:arOk 22 a.size=(a.size == 1):=rfl
  rw [e] at har
  simpa using har
 obtain ⟨v,rfl⟩:∃ v,a=#[v]:=⟨a[0],Array.ext (by simp [ha1]) fun i h1 h2=>by
  have:i=0:=by simp at h2; omega
  subst this
  rfl⟩
 obtain ⟨v',rfl⟩:∃ v',a'=#[v']:=⟨a'[0]'(by rw [<- ha.1]; exact ha1 ▸ Nat.zero_lt_one),Array.ext (by simp [<- ha.1]) fun i h1 h2=>by
  have:i=0:=by simp at h2; omega
  subst this
  rfl⟩
 have hv:VRel R v v':=ha.2 0 (by simp) (by simp)
 have tr0:=tr
 obtain ⟨wd,ga,ga',m,gl,rfl,rfl,hn62,hCl,hgr⟩:=to_tells hw hv tr
 clear tr
 have hCw:Sp.CellsAt w ga' gl:=cells_other (w:=wl.tp w.tape w.drawn) hw hgr (show Sp.CellsAt (wl.tp w.tape w.drawn) ga gl from hCl)
 refine (show Leads Tryz.prog (fun M t=>∃ (n:Nat) (gs':Array Goroutine) (w':World) (sl':Option (Nat × Nat)) (t':Trace) (q':Nat->Nat) (Shun':Nat->Prop) (R':BR) (v v':Value) (wl':World),
   runNT Tryz.prog n M t=(.next (crowd gs' w' sl'),t')/\gs'[0]?=some (G (c'.finish v') cs')/\Bes Tryz.prog Shun' gs' w' t' q'/\Desc SqP.prog (Frame.enter SqP.prog 22 #[.agg #[.int .i64 wd,.slice ga gl.length m]] .normal) (c :: cs) wl (c.finish v) cs wl'/\R.le R'/\VRel R' v v' /\
   WRel N R' (wl'.tp w'.tape w'.drawn) w'/\(∀ b c,R' b c->¬ Shun' c)/\(∀ b c,R' b c->N<=b->N<=c)/\(∀ c,Shun' c->N<=c)/\Below N w w') Shun (fun _=>False) (G (Frame.enter Tryz.prog 22 #[.agg #[.int .i64 wd,.slice ga' gl.length m]] .normal) (c' :: cs')) w from ?_) gs sl t q hB h0 (fun _ h=>h.elim)
 have hG:∀ (n:Nat) (M:Machine) (t:Trace) (M':Machine) (t':Trace),runNT Tryz.prog n M t=(.next M',t')->(∃ (n:Nat) (gs':Array Goroutine) (w':World) (sl':Option (Nat × Nat)) (t'':Trace) (q':Nat->Nat) (Shun':Nat->Prop) (R':BR) (v v':Value) (wl':World),
   runNT Tryz.prog n M' t'=(.next (crowd gs' w' sl'),t'')/\gs'[0]?=some (G (c'.finish v') cs')/\Bes Tryz.prog Shun' gs' w' t'' q'/\Desc SqP.prog (Frame.enter SqP.prog 22 #[.agg #[.int .i64 wd,.slice ga gl.length m]] .normal) (c :: cs) wl (c.finish v) cs wl'/\R.le R'/\VRel R' v v' /\
   WRel N R' (wl'.tp w'.tape w'.drawn) w'/\(∀ b c,R' b c->¬ Shun' c)/\(∀ b c,R' b c->N<=b->N<=c)/\(∀ c,Shun' c->N<=c)/\Below N w w')->(∃ (n:Nat) (gs':Array Goroutine) (w':World) (sl':Option (Nat × Nat)) (t'':Trace) (q':Nat->Nat) (Shun':Nat->Prop) (R':BR) (v v':Value) (wl':World),
   runNT Tryz.prog n M t=(.next (crowd gs' w' sl'),t'')/\gs'[0]?=some (G (c'.finish v') cs')/\Bes Tryz.prog Shun' gs' w' t'' q'/\Desc SqP.prog (Frame.enter SqP.prog 22 #[.agg #[.int .i64 wd,.slice ga gl.length m]] .normal) (c :: cs) wl (c.finish v) cs wl'/\R.le R'/\VRel R' v v' /\
   WRel N R' (wl'.tp w'.tape w'.drawn) w'/\(∀ b c,R' b c->¬ Shun' c)/\(∀ b c,R' b c->N<=b->N<=c)/\(∀ c,Shun' c->N<=c)/\Below N w w'):=by
  rintro n1 M t M' t' h1 ⟨n2,gs',w',sl',t'',q',Shun',R',v,v',wl',h2,h3⟩
  exact ⟨n1 + n2,gs',w',sl',t'',q',Shun',R',v,v',wl',by rw [runNT_add,h1]; exact h2,h3⟩
 have hKc:∀ e,rng R e->e < w.heap.size/\¬ Shun e:=fun e ⟨b,hb⟩=>⟨(hw.lt hb).2,hSh b e hb⟩
 have hcl:∀ w1,Hp (held (rng R) w) w1->Closed (rng R) w1:=fun w1 hp=>held_closed (rng_closed hw) hp
 have hC1:∀ w1,Hp (held (rng R) w) w1->∀ τ d,Sp.CellsAt (w1.frz.tp τ d) ga' gl:=fun w1 hp τ d=>cells_frz hCw (fun b off e=>by
  subst e
  have hb:rng R b:=by
   cases hgr with
   | slice _ _ had=>exact ⟨_,had.1⟩
  have hlt:=(hKc b hb).1
  have e2:w.heap[b]?=some w.heap[b]:=Array.getElem?_eq_getElem hlt
  rw [e2]
  exact hp (b,w.heap[b]) (mem_held.2 ⟨hb,e2⟩)) τ d
 have hold:∀ (wl1 u:World),Below wl.heap.size wl wl1->KeepB (fun e=>e < w.heap.size/\¬ Shun e) w u->∀ b e,R b e->∃ o o',wl1.heap[b]?=some o/\u.heap[e]?=some o'/\ORel R (b < N) o o':=fun wl1 u hb1 hk b e hbe=>by
  obtain ⟨o,o',e1,e2,ho⟩:=hw.blk b e hbe
  have hl:=hw.lt hbe
  exact ⟨o,o',(hb1.block b hl.1).trans e1,(hk.1 e ⟨hl.2,hSh b e hbe⟩).trans e2,ho⟩
 have hbelow:∀ u,KeepB (fun e=>e < w.heap.size/\¬ Shun e) w u->Below N w u:=fun u hk=>⟨hk.2.2.1,hk.2.1,hk.2.2.2.1,hk.2.2.2.2,fun e he=>hk.1 e ⟨by omega,fun h=>by have:=hShN e h; omega⟩⟩
 have hlow:N<=wl.heap.size:=hw.low
 rcases hk:Sp.okG wd gl with _ | _
 ·skip
  obtain ⟨vl,wl1,⟨rfl,hb1⟩,hd⟩:=tree_call tr0 (Post:=fun v w'=>v=.slice none 0 0/\Below wl.heap.size wl w') ((Sp.toNo_any wd ga m gl wl hCl hn62 hk).mono fun e w' h=>⟨_,h.1,rfl,h.2⟩)
  refine R2.pic_leadsR (Fin:=fun _ v _ Sh=>v=.slice none 0 0/\Sh=Shun) (Out:=fun v _ Sh=>v=.slice none 0 0/\Sh=Shun) hG (fun p h=>(mem_held.1 h).1) (hp_held _ w) hKc ?_ (fun _ _ _ _ _ h _ _ _=>h) ?_
  ·intro c0 cs0 w0 hp hK0 _ hfin
   exact R2.rows_noneR (L:=SqN.prog) (X:=fun _=>false=true) hG SqN.whole SqN.bodies (fun _ h=>by cases h) SqN.func44 (fun h=>by cases h) (fun p h=>(mem_held.1 h).1) hcl (slice_snd hgr) (fun w hp τ d=>((Sp.Sn.implGridOk_any wd ga' m gl _ (hC1 w hp τ d) (by omega)).mono fun e w' h=>by rw [h.1,hk])) w0 hp hK0 fun u hu=>hfin _ u Shun hu ⟨rfl,rfl⟩
  ·rintro v u Sh hu ⟨rfl,rfl⟩ gs1 sl1 t1 q1 hB1 h01 _
   refine ⟨0,gs1,u,sl1,t1,q1,Sh,R,.slice none 0 0,.slice none 0 0,wl1,rfl,h01,hB1,hd,BR.le_refl R,.nilSlice 0 0,⟨hw.one,hold wl1 u hb1 hu,rfl,rfl,?_⟩,hSh,hN,hShN,hbelow u hu⟩
   have:=hb1.size
   show N<=wl1.heap.size
   omega
 ·skip
  obtain ⟨W,H,rfl,h1,h2,h3,h4,el,hH,hHI⟩:=Sp.okG_nat wd gl hk
  have hM:Sp.manyG (W:Int) gl=((2 * (W + H):Nat):Int):=by rw [Sp.manyG_ok hk hHI]; omega
  obtain ⟨M,eM⟩:∃ M,2 * (W + H)=M:=⟨_,rfl⟩
  obtain ⟨vl,wl1,⟨g,gs0,rfl,hRG,hb1⟩,hd⟩:=tree_call tr0 (Post:=fun v w'=>∃ g gs,v=.slice (some ⟨g,0,none⟩) M M/\Sp.RowsG wl w' (W:Int) gl M g gs/\Below wl.heap.size wl w') ((Sp.toYes_any (W:Int) ga m gl wl hCl hk M (by rw [<- eM]; exact hM)).mono fun e w' ⟨g,gs,q1,q2⟩=>⟨_,q1,g,gs,rfl,q2⟩)
  refine R2.pic_leadsR (Fin:=fun w0 v u Sh=>∃ bo bf,RealR (W:Int) gl M Shun w0.heap.size v u Sh bo bf) (Out:=fun v u Sh=>∃ bo bf,RealR (W:Int) gl M Shun w.heap.size v u Sh bo bf) hG (fun p h=>(mem_held.1 h).1) (hp_held _ w) hKc ?_ ?_ ?_
  ·intro c0 cs0 w0 hp hK0 _ hfin
   refine rows_yesR hG hk ⟨h1,h2⟩ ⟨h3,h4⟩ el hH hHI (fun p h=>(mem_held.1 h).1) hcl (fun e he=>⟨(e,w.heap[e]'(hKc e he).1),mem_held.2 ⟨he,Array.getElem?_eq_getElem (hKc e he).1⟩,rfl⟩) (slice_snd hgr) hC1 w0 hp hK0 fun u bo xs bsf hu hbo hc hrows hdis Sh hS hnb hnbs=>hfin _ u Sh hu ?_
   rw [eM] at hc hrows hdis hnbs ⊢
   have hch:∀ k:Nat,∃ b,k < M->xs k=.slice (some ⟨b,0,none⟩) M M/\bsf k=[(b,.cells (Array.ofFn fun j:Fin M=>.int .i64 (Sp.toN (W:Int) gl (k:Int) ((j:Nat):Int))) 3)]:=fun k=>by
    by_cases h:k < M
    ·obtain ⟨b,q⟩:=(hrows k h).1
     exact ⟨b,fun _=>q⟩
    ·exact ⟨0,fun q=>absurd q h⟩
   obtain ⟨bf,hbf⟩:∃ bf:Nat->Nat,∀ k,k < M->xs k=.slice (some ⟨bf k,0,none⟩) M M/\bsf k=[(bf k,.cells (Array.ofFn fun j:Fin M=>.int .i64 (Sp.toN (W:Int) gl (k:Int) ((j:Nat):Int))) 3)]:=⟨fun k=>(hch k).choose,fun k=>(hch k).choose_spec⟩
   have hmem:∀ k,k < M->(bf k,Obj.cells (Array.ofFn fun j:Fin M=>.int .i64 (Sp.toN (W:Int) gl (k:Int) ((j:Nat):Int))) 3) ∈ bsf k:=fun k h=>by rw [(hbf k h).2]; simp
   refine ⟨bo,bf,rfl,hbo,?_,fun k h=>⟨(hrows k h).2.1 _ (hmem k h),((hrows k h).2.2 _ (hmem k h)).1,((hrows k h).2.2 _ (hmem k h)).2,hnbs k h _ (hmem k h)⟩,fun k k' h h' e=>hdis k k' _ _ h h' (hmem k h) (hmem k' h') e,hS,hnb⟩
   rw [hc]
   refine congrArg (fun x=>some (Obj.cells x 27)) (Array.ext (by simp) fun j q1 q2=>?_)
   have q3:j < M:=by simpa using q2
   simpa using (hbf j q3).1
  ·rintro w0 v u u2 Sh ⟨bo,bf,hR⟩ hz hkeep hsz
   exact ⟨bo,bf,hR.keep hz hkeep⟩
  ·rintro v u Sh hu ⟨bo,bf,rfl,q1,q2,qr,qi,q3,q4⟩ gs1 sl1 t1 q' hB1 h01 _
   have gsl:∀ k,k < M->gs0.getD k 0 ∈ gs0:=fun k h=>Sp.mem_getD (by rw [hRG.len]; exact h)
   have gsi:∀ k k',k < M->k' < M->gs0.getD k 0=gs0.getD k' 0->k=k':=fun k k' h h' e=>by
    have n1:k < gs0.length:=by rw [hRG.len]; exact h
    have n2:k' < gs0.length:=by rw [hRG.len]; exact h'
    rw [List.getD_eq_getElem?_getD,List.getD_eq_getElem?_getD,List.getElem?_eq_getElem n1,List.getElem?_eq_getElem n2,Option.getD_some,Option.getD_some] at e
    exact (List.getElem_inj hRG.nodup).1 e
   obtain ⟨R',hR'⟩:∃ R':BR,R'=fun b e=>R b e\/(b=g/\e=bo)\/∃ k,k < M/\b=gs0.getD k 0/\e=bf k:=⟨_,rfl⟩
   have hltL:∀ {b c},R b c->b < wl.heap.size:=fun h=>(hw.lt h).1
   have hone:R'.One:=by
    rw [hR']
    refine ⟨fun b e e' x y=>?_,fun b b' e x y=>?_⟩
    ·rcases x with x | ⟨rfl,rfl⟩ | ⟨k,hk1,rfl,rfl⟩
     ·have:=hltL x
      rcases y with y | ⟨rfl,rfl⟩ | ⟨k,hk1,rfl,rfl⟩
      ·exact hw.one.1 _ _ _ x y
      ·have:=hRG.new; omega
      ·have:=(hRG.apart _ (gsl k hk1)).1; omega
     ·rcases y with y | ⟨_,rfl⟩ | ⟨k,hk1,e1,rfl⟩
      ·have:=hltL y; have:=hRG.new; omega
      ·rfl
      ·exact absurd e1.symm (hRG.apart _ (gsl k hk1)).2
     ·rcases y with y | ⟨e1,rfl⟩ | ⟨k',hk2,e1,rfl⟩
      ·have:=hltL y; have:=(hRG.apart _ (gsl k hk1)).1; omega
      ·exact absurd e1 (hRG.apart _ (gsl k hk1)).2
      ·rw [gsi k k' hk1 hk2 e1]
    ·rcases x with x | ⟨rfl,rfl⟩ | ⟨k,hk1,rfl,rfl⟩
     ·have:=(hw.lt x).2
      rcases y with y | ⟨rfl,rfl⟩ | ⟨k,hk1,rfl,rfl⟩
      ·exact hw.one.2 _ _ _ x y
      ·omega
      ·have:=(qr k hk1).2.1; omega
     ·rcases y with y | ⟨rfl,_⟩ | ⟨k,hk1,rfl,e1⟩
      ·have:=(hw.lt y).2; omega
      ·rfl
      ·exact absurd e1.symm (qr k hk1).2.2.1
     ·rcases y with y | ⟨rfl,e1⟩ | ⟨k',hk2,rfl,e1⟩
      ·have:=(hw.lt y).2; have:=(qr k hk1).2.1; omega
      ·exact absurd e1 (qr k hk1).2.2.1
      ·rw [qi k k' hk1 hk2 e1]
   have hle:R.le R':=⟨fun _ _ h=>by rw [hR']; exact Or.inl h,fun _=>hone⟩
   have inO:R' g bo:=by rw [hR']; exact .inr (.inl ⟨rfl,rfl⟩)
   have inR:∀ k,k < M->R' (gs0.getD k 0) (bf k):=fun k h=>by rw [hR']; exact .inr (.inr ⟨k,h,rfl,rfl⟩)
   have cases':∀ {b e},R' b e->R b e\/(b=g/\e=bo)\/∃ k,k < M/\b=gs0.getD k 0/\e=bf k:=fun h=>by rw [hR'] at h; exact h
   refine ⟨0,gs1,u,sl1,t1,q',Sh,R',.slice (some ⟨g,0,none⟩) M M,.slice (some ⟨bo,0,none⟩) M M,wl1,rfl,h01,hB1,hd,hle,.slice _ _ ⟨inO,rfl,rfl⟩,⟨hone,?_,rfl,rfl,?_⟩,?_,?_,?_,hbelow u hu⟩
   ·intro b e hbe
    rcases cases' hbe with hbe | ⟨rfl,rfl⟩ | ⟨k,hk1,rfl,rfl⟩
    ·obtain ⟨o,o',e1,e2,ho⟩:=hold wl1 u hb1 hu b e hbe
     exact ⟨o,o',e1,e2,ho.mono hle⟩
    ·have hn:=hRG.new
     refine ⟨_,_,hRG.all,q2,.cells ⟨by simp,fun i hi1 hi2=>?_⟩ (fun h=>by omega) (fun _=>rfl)⟩
     have hi:i < M:=by simpa using hi2
     simp only [Array.getElem_ofFn]
     exact .slice _ _ ⟨inR i hi,rfl,rfl⟩
    ·have hn:=(hRG.apart _ (gsl k hk1)).1
     exact ⟨_,_,(hRG.row k hk1).whole,(qr k hk1).1,.cells (ints_rel fun i h=>⟨Sp.toN (W:Int) gl (k:Int) ((i:Nat):Int),by simp⟩) (fun h=>by omega) (fun _=>rfl)⟩
   ·have:=hb1.size
    show N<=wl1.heap.size
    omega
   ·intro b e hbe hs
    rcases cases' hbe with hbe | ⟨rfl,rfl⟩ | ⟨k,hk1,rfl,rfl⟩
    ·rcases q3 e hs with x | x
     ·exact hSh b e hbe x
     ·have:=(hw.lt hbe).2
      omega
    ·exact q4 hs
    ·exact (qr k hk1).2.2.2 hs
   ·intro b e hbe hb
    rcases cases' hbe with hbe | ⟨rfl,rfl⟩ | ⟨k,hk1,rfl,rfl⟩
    ·exact hN b e hbe hb
    ·omega
    ·have:=(qr k hk1).2.1; omega
   ·intro e he
    rcases q3 e he with x | x
    ·exact hShN e x
    ·omega
end
end Go.Proofs.YtdhopelplokehaaGreat
