/- Of the proof: Qu -/
import Derived.Test.YtfbbcooklhmeaaaGreatLBv
set_option maxHeartbeats 4000000
set_option linter.unusedVariables false
namespace Go.Proofs.YtfbbcooklhmeaaaGreat
section
open Go Go.Conc Go.ConcN Go.RowKit Go.Conc.Lib Go.ConcR.Gen Go.ConcN.Gen
open Go.ConcR (KK wgBlock WgAt stA smA rd wr mk Payload Aside2 DC0)
theorem zpj (R:BR):zao R (.tuple #[.agg #[.int .i64 0,.slice none 0 0,.slice none 0 0,.slice none 0 0],.bool false]) (.tuple #[.agg #[.int .i64 0,.slice none 0 0,.slice none 0 0,.slice none 0 0],.bool false]):=by
 refine .tuple rfl fun i h1 h2=>?_
 have:i=0\/i=1:=by simp at h1; omega
 rcases this with rfl | rfl
 ·refine .agg rfl fun i h1 h2=>?_
  have:i=0\/i=1\/i=2\/i=3:=by simp at h1; omega
  rcases this with rfl | rfl | rfl | rfl
  ·exact .int _ _
  ·exact .nilSlice _ _
  ·exact .nilSlice _ _
  ·exact .nilSlice _ _
 ·exact .bool _
theorem zm4 {R:BR} {wd:Int} {n M gc bl bf gc' bl' bf':Nat} (h1:R gc gc') (h2:R bl bl') (h3:R bf bf'):zao R (.tuple #[.agg #[.int .i64 wd,.slice (some ⟨gc,0,none⟩) n n,.slice (some ⟨bl,0,none⟩) M M,.slice (some ⟨bf,0,none⟩) M M],.bool true]) (.tuple #[.agg #[.int .i64 wd,.slice (some ⟨gc',0,none⟩) n n,.slice (some ⟨bl',0,none⟩) M M,.slice (some ⟨bf',0,none⟩) M M],.bool true]):=by
 refine .tuple rfl fun i q1 q2=>?_
 have:i=0\/i=1:=by simp at q1; omega
 rcases this with rfl | rfl
 ·refine .agg rfl fun i q1 q2=>?_
  have:i=0\/i=1\/i=2\/i=3:=by simp at q1; omega
  rcases this with rfl | rfl | rfl | rfl
  ·exact .int _ _
  ·exact .slice _ _ ⟨h1,rfl,rfl⟩
  ·exact .slice _ _ ⟨h2,rfl,rfl⟩
  ·exact .slice _ _ ⟨h3,rfl,rfl⟩
 ·exact .bool _
set_option maxRecDepth 100000 in
theorem zqd (N:Nat):XOk SqP.prog Tryz.prog (fun i=>i=16) N:=by
 intro FinP f a a' c c' cs cs' R wl w Shun gs t q sl hXf har ha hcs hw tr hB h0 hSh hN hShN hNw
 obtain rfl:f=16:=hXf
 have ha1:a.size=1:=by
  have e:znR 16 a.size=(a.size == 1):=rfl
  rw [e] at har
  simpa using har
 obtain ⟨v,rfl⟩:∃ v,a=#[v]:=⟨a[0],Array.ext (by simp [ha1]) fun i h1 h2=>by
  have:i=0:=by simp at h2; omega
  subst this
  rfl⟩
 obtain ⟨v',rfl⟩:∃ v',a'=#[v']:=⟨a'[0]'(by rw [<- ha.1]; exact ha1 ▸ Nat.zero_lt_one),Array.ext (by simp [<- ha.1]) fun i h1 h2=>by
  have:i=0:=by simp at h2; omega
  subst this
  rfl⟩
 have hv:zao R v v':=ha.2 0 (by simp) (by simp)
 have tr0:=tr
 obtain ⟨wd,ga,ga',m,gl,rfl,rfl,hn62,hCl,hgr⟩:=zoM hw hv tr
 clear tr
 have hCw:Sp.zai w ga' gl:=ziR (w:=wl.tp w.tape w.drawn) hw hgr (show Sp.zai (wl.tp w.tape w.drawn) ga gl from hCl)
 refine (show zar Tryz.prog (fun M t=>∃ (n:Nat) (gs':Array Goroutine) (w':World) (sl':Option (Nat × Nat)) (t':Trace) (q':Nat->Nat) (Shun':Nat->Prop) (R':BR) (v v':Value) (wl':World),
   runNT Tryz.prog n M t=(.next (crowd gs' w' sl'),t')/\gs'[0]?=some (G (c'.finish v') cs')/\Bes Tryz.prog Shun' gs' w' t' q'/\zcj SqP.prog (Frame.enter SqP.prog 16 #[.agg #[.int .i64 wd,.slice ga gl.length m]] .normal) (c :: cs) wl (c.finish v) cs wl'/\R.le R'/\zao R' v v' /\
   za8 N R' (wl'.tp w'.tape w'.drawn) w'/\(∀ b c,R' b c->¬ Shun' c)/\(∀ b c,R' b c->N<=b->N<=c)/\(∀ c,Shun' c->N<=c)/\Below N w w') Shun (fun _=>False) (G (Frame.enter Tryz.prog 16 #[.agg #[.int .i64 wd,.slice ga' gl.length m]] .normal) (c' :: cs')) w from ?_) gs sl t q hB h0 (fun _ h=>h.elim)
 have hG:∀ (n:Nat) (M:Machine) (t:Trace) (M':Machine) (t':Trace),runNT Tryz.prog n M t=(.next M',t')->(∃ (n:Nat) (gs':Array Goroutine) (w':World) (sl':Option (Nat × Nat)) (t'':Trace) (q':Nat->Nat) (Shun':Nat->Prop) (R':BR) (v v':Value) (wl':World),
   runNT Tryz.prog n M' t'=(.next (crowd gs' w' sl'),t'')/\gs'[0]?=some (G (c'.finish v') cs')/\Bes Tryz.prog Shun' gs' w' t'' q'/\zcj SqP.prog (Frame.enter SqP.prog 16 #[.agg #[.int .i64 wd,.slice ga gl.length m]] .normal) (c :: cs) wl (c.finish v) cs wl'/\R.le R'/\zao R' v v' /\
   za8 N R' (wl'.tp w'.tape w'.drawn) w'/\(∀ b c,R' b c->¬ Shun' c)/\(∀ b c,R' b c->N<=b->N<=c)/\(∀ c,Shun' c->N<=c)/\Below N w w')->(∃ (n:Nat) (gs':Array Goroutine) (w':World) (sl':Option (Nat × Nat)) (t'':Trace) (q':Nat->Nat) (Shun':Nat->Prop) (R':BR) (v v':Value) (wl':World),
   runNT Tryz.prog n M t=(.next (crowd gs' w' sl'),t'')/\gs'[0]?=some (G (c'.finish v') cs')/\Bes Tryz.prog Shun' gs' w' t'' q'/\zcj SqP.prog (Frame.enter SqP.prog 16 #[.agg #[.int .i64 wd,.slice ga gl.length m]] .normal) (c :: cs) wl (c.finish v) cs wl'/\R.le R'/\zao R' v v' /\
   za8 N R' (wl'.tp w'.tape w'.drawn) w'/\(∀ b c,R' b c->¬ Shun' c)/\(∀ b c,R' b c->N<=b->N<=c)/\(∀ c,Shun' c->N<=c)/\Below N w w'):=by
  rintro n1 M t M' t' h1 ⟨n2,gs',w',sl',t'',q',Shun',R',v,v',wl',h2,h3⟩
  exact ⟨n1 + n2,gs',w',sl',t'',q',Shun',R',v,v',wl',by rw [runNT_add,h1]; exact h2,h3⟩
 have hKc:∀ e,rng R e->e < w.heap.size/\¬ Shun e:=fun e ⟨b,hb⟩=>⟨(hw.lt hb).2,hSh b e hb⟩
 have hcl:∀ w1,Hp (held (rng R) w) w1->Closed (rng R) w1:=fun w1 hp=>zi6 (zk7 hw) hp
 have hC1:∀ w1,Hp (held (rng R) w) w1->∀ τ d,Sp.zai (w1.frz.tp τ d) ga' gl:=fun w1 hp τ d=>zhG hCw (fun b off e=>by
  subst e
  have hb:rng R b:=by
   cases hgr with
   | slice _ _ had=>exact ⟨_,had.1⟩
  have hlt:=(hKc b hb).1
  have e2:w.heap[b]?=some w.heap[b]:=Array.getElem?_eq_getElem hlt
  rw [e2]
  exact hp (b,w.heap[b]) (zbA.2 ⟨hb,e2⟩)) τ d
 have hold:∀ (wl1 u:World),Below wl.heap.size wl wl1->zb2 (fun e=>e < w.heap.size/\¬ Shun e) w u->∀ b e,R b e->∃ o o',wl1.heap[b]?=some o/\u.heap[e]?=some o'/\znD R (b < N) o o':=fun wl1 u hb1 hk b e hbe=>by
  obtain ⟨o,o',e1,e2,ho⟩:=hw.blk b e hbe
  have hl:=hw.lt hbe
  exact ⟨o,o',(hb1.block b hl.1).trans e1,(hk.1 e ⟨hl.2,hSh b e hbe⟩).trans e2,ho⟩
 have hbelow:∀ u,zb2 (fun e=>e < w.heap.size/\¬ Shun e) w u->Below N w u:=fun u hk=>⟨hk.2.2.1,hk.2.1,hk.2.2.2.1,hk.2.2.2.2,fun e he=>hk.1 e ⟨by omega,fun h=>by have:=hShN e h; omega⟩⟩
 have hlow:N<=wl.heap.size:=hw.low
 rcases hk:Sp.okG wd gl with _ | _
 ·skip
  obtain ⟨vl,wl1,⟨rfl,hb1⟩,hd⟩:=znw tr0 (Post:=fun v w'=>v=.tuple #[.agg #[.int .i64 0,.slice none 0 0,.slice none 0 0,.slice none 0 0],.bool false]/\Below wl.heap.size wl w') ((Sp.zkl wd ga m gl wl hCl hn62 hk).mono fun e w' h=>⟨_,h.1,rfl,h.2⟩)
  refine zlc (L:=SqN.prog) (X:=fun _=>false=true) SqN.whole SqN.bodies (fun _ h=>by cases h) SqN.func30 (fun h=>by cases h) hG (fun p h=>(zbA.1 h).1) (zmm _ w) hKc hcl (zdW hgr) (fun w hp τ d=>((Sp.zaw wd ga' m gl _ (hC1 w hp τ d) (by omega)).mono fun e w' h=>by rw [h.1,hk])) ?_
  intro u hu gs1 sl1 t1 q1 hB1 h01 _
  refine ⟨0,gs1,u,sl1,t1,q1,Shun,R,_,_,wl1,rfl,h01,hB1,hd,BR.le_refl R,zpj R,⟨hw.one,hold wl1 u hb1 hu,rfl,rfl,?_⟩,hSh,hN,hShN,hbelow u hu⟩
  have:=hb1.size
  show N<=wl1.heap.size
  omega
 ·skip
  obtain ⟨W,H,rfl,h1,h2,h3,h4,el,hH,hHI⟩:=Sp.zfv wd gl hk
  have hM:Sp.zcg (W:Int) gl=((2 * (W + H):Nat):Int):=by rw [Sp.zcs hk hHI]; omega
  have hn25:gl.length<=25:=by rw [el]; exact Nat.le_trans (Nat.mul_le_mul h2 h4) (by omega)
  have hl0:0 < gl.length:=by rw [el]; exact Nat.mul_pos (by omega) (by omega)
  have hKl:∀ e,rng R e->∃ p ∈ held (rng R) w,p.1=e:=fun e he=>⟨(e,w.heap[e]'(hKc e he).1),zbA.2 ⟨he,Array.getElem?_eq_getElem (hKc e he).1⟩,rfl⟩
  refine zjs (L:=SqN.prog) (X:=fun _=>false=true) SqN.whole SqN.bodies (fun _ h=>by cases h) SqN.func30 (fun h=>by cases h) SqN.func31 (fun h=>by cases h) hG (M:=2 * (W + H)) (RowP:=zqt (W:Int) gl) (fun p h=>(zbA.1 h).1)
   (fun Sh0 c0 cs0 w0 hp hK hf=>zoa (Shun:=Sh0) hG hk ⟨h1,h2⟩ ⟨h3,h4⟩ el hH hHI (fun p h=>(zbA.1 h).1) hcl hKl (zdW hgr) hC1 w0 hp hK (fun u bo xs bsf hu hbo hc hrows hdis Sh hS hnb hnbs=>hf u bo xs bsf Sh hu ⟨hbo,hc,hrows,hdis,hnb,hnbs⟩ hS))
   (objL:=Sp.zeT (W:Int) gl (2 * (W + H)))
   (fun Sh0 c0 cs0 w0 hp hK hf=>zmR (Shun:=Sh0) (Fin:=fun w1 v u Sh=>∃ bo,v=.slice (some ⟨bo,0,none⟩) (2 * (W + H)) (2 * (W + H))/\w1.heap.size<=bo/\u.heap[bo]?=some (Sp.zeT (W:Int) gl (2 * (W + H)))/\¬ Sh bo/\∀ e,Sh e->Sh0 e\/w1.heap.size<=e) (Out:=fun v u Sh=>∃ bo,v=.slice (some ⟨bo,0,none⟩) (2 * (W + H)) (2 * (W + H))/\w0.heap.size<=bo/\u.heap[bo]?=some (Sp.zeT (W:Int) gl (2 * (W + H)))/\¬ Sh bo/\∀ e,Sh e->Sh0 e\/w0.heap.size<=e) hG (fun p h=>(zbA.1 h).1) hp hK
    (fun c1 cs1 w1 hp1 hK1 hsz1 hf1=>zoK (Shun:=Sh0) hG hk ⟨h1,h2⟩ ⟨h3,h4⟩ el hH hHI (fun p h=>(zbA.1 h).1) hcl hKl (zdW hgr) hC1 w1 hp1 hK1 (fun u bo hu hbo hc Sh hS hnb=>hf1 _ u Sh hu ⟨bo,rfl,hbo,hc,hnb,hS⟩))
    (fun w1 v u u2 Sh ⟨bo,e,q1,q2,q3,q4⟩ hz hk2 hs2=>⟨bo,e,Nat.le_trans hz q1,(hk2 bo (gei q2).1).trans q2,q3,fun e he=>(q4 e he).imp id (Nat.le_trans hz)⟩)
    (fun v u Sh hu ⟨bo,e,q1,q2,q3,q4⟩=>by subst e; exact hf u bo Sh hu q1 q2 q3 q4))
   (objC:=(Sp.flat gl).toArray) (zmm _ w) hKc hcl (zdW hgr) (fun w hp τ d=>((Sp.zaw (W:Int) ga' m gl _ (hC1 w hp τ d) (by omega)).mono fun e w' h=>by rw [h.1,hk]))
   (zbU:=zbU (W:Int) gl) (zf3:=zf3 (W:Int) gl) (fun _ _ _ _ _ h=>h) (fun w hp τ d=>((Sp.zem (W:Int) ga' m gl _ (hC1 w hp τ d) (by omega) hl0).mono fun e w' ⟨g,e1,hO,hb⟩=>⟨_,e1,g,rfl,(zeN w ▸ (zfw hO).1:w.heap.size<=g),(zfw hO).2⟩)) zn1 (fun v bs ⟨b,e1,e2⟩=>⟨b,e1,e2⟩) ?_
  intro w1 bs bc bl bf u2 xs bsf Sh hsz hkept ht ho hu hbs hbc hCo hnc hcs hk2 hbl hLo hnl hrl hlf hF hShS gs1 sl1 t1 q1 hB1 h01 _
  have hkw:zb2 (fun e=>e < w.heap.size/\¬ Shun e) w u2:=⟨fun e he=>(hk2.1 e ⟨by have:=he.1; omega,he.2,by have:=he.1; omega⟩).trans (hkept e he.1),hk2.2.1.trans ht,hk2.2.2.1.trans ho,hk2.2.2.2.1.trans hu,by have:=hk2.2.2.2.2; omega⟩
  have hbc1:=(gei hCo).1
  have hCu:u2.heap[bc]?=some (.cells (Sp.flat gl).toArray 59):=(hk2.1 bc ⟨hbc1,hnc,hcs⟩).trans hCo
  obtain ⟨wl',gc,ll,lf,arrL,arrF,xl,hI,hd⟩:=zq0 (C:=fun k=>max 1 (zbI (xs k))) hCl hk hn25 hl0 hM (by omega) (fun k hkM=>by
   rcases (hF.row k hkM).1 with ⟨e,e2,_⟩ | ⟨b,C,e,q1,q2,q3,_⟩
   ·rw [e,e2]
    simp [zbI,maxLen]
   ·rw [e]
    simp only [zbI]
    omega) tr0
  have hIl:=hI.lt
  have hzl:wl.heap.size<=wl'.heap.size:=hI.below.size
  have hrow:∀ k,k < 2 * (W + H)->(xl k=.slice none 0 0/\xs k=.slice none 0 0)\/∃ b e C,xl k=.slice (some ⟨b,0,none⟩) (Sp.za0 (W:Int) gl (k:Int)).length C/\xs k=.slice (some ⟨e,0,none⟩) (Sp.za0 (W:Int) gl (k:Int)).length C/\wl'.heap[b]?=some (.cells (zfY (Sp.za0 (W:Int) gl (k:Int)) C) 3)/\u2.heap[e]?=some (.cells (zfY (Sp.za0 (W:Int) gl (k:Int)) C) 3)/\lf < b/\w1.heap.size<=e/\e ≠ bf/\e ≠ bl/\¬ Sh e:=by
   intro k hkM
   rcases (hF.row k hkM).1 with ⟨e,e2,_⟩ | ⟨b,C,e,q1,q2,q3,q4⟩
   ·rcases (hI.row k hkM).1 with ⟨f,_⟩ | ⟨g,cp,_,_,f,_⟩
    ·exact .inl ⟨f,e⟩
    ·rw [e2] at f; simp at f
   ·rcases (hI.row k hkM).1 with ⟨_,f⟩ | ⟨g,cp,f,f1,f2,f3,f4,f5⟩
    ·rw [f] at q1; simp at q1
    ·have hcp:cp=C:=by
      rcases (hI.row k hkM).2 with z | z
      ·rw [f] at z; simp at z
      ·rw [f,e] at z
       simp only [zbI] at z
       omega
     subst hcp
     have hmem:(b,Obj.cells (zfY (Sp.za0 (W:Int) gl (k:Int)) cp) 3) ∈ bsf k:=by rw [q4]; simp
     exact .inr ⟨g,b,cp,f,e,f5,(hF.row k hkM).2.1 _ hmem,hI.apart k hkM g (by rw [f]; rfl),((hF.row k hkM).2.2 _ hmem).1,((hF.row k hkM).2.2 _ hmem).2,hrl k hkM _ hmem,hF.rows k hkM _ hmem⟩
  have rowL:∀ k b,k < 2 * (W + H)->(xl k).ownBlock=some b->lf < b:=fun k b hkM hb=>hI.apart k hkM b hb
  have rowR:∀ k e,k < 2 * (W + H)->(xs k).ownBlock=some e->w1.heap.size<=e/\e ≠ bf/\e ≠ bl/\¬ Sh e:=fun k e hkM he=>by
   rcases hrow k hkM with ⟨_,f⟩ | ⟨b,e',C,_,f,_,_,_,g1,g2,g3,g4⟩
   ·rw [f] at he; simp [Value.ownBlock] at he
   ·rw [f] at he
    simp [Value.ownBlock] at he
    subst he
    exact ⟨g1,g2,g3,g4⟩
  have onceR:∀ k k' e,k < 2 * (W + H)->k' < 2 * (W + H)->(xs k).ownBlock=some e->(xs k').ownBlock=some e->k=k':=fun k k' e hkM hkM' he he'=>by
   rcases (hF.row k hkM).1 with ⟨f,_⟩ | ⟨b,C,f,_,_,_,f4⟩
   ·rw [f] at he; simp [Value.ownBlock] at he
   ·rcases (hF.row k' hkM').1 with ⟨f',_⟩ | ⟨b',C',f',_,_,_,f4'⟩
    ·rw [f'] at he'; simp [Value.ownBlock] at he'
    ·rw [f] at he
     rw [f'] at he'
     simp [Value.ownBlock] at he he'
     exact hF.once k k' _ _ hkM hkM' (by rw [f4]; exact List.mem_singleton.2 rfl) (by rw [f4']; exact List.mem_singleton.2 rfl) (by simp [he,he'])
  obtain ⟨R',hR'⟩:∃ R':BR,R'=fun b e=>R b e\/(b=gc/\e=bc)\/(b=ll/\e=bl)\/(b=lf/\e=bf)\/∃ k,k < 2 * (W + H)/\(xl k).ownBlock=some b/\(xs k).ownBlock=some e:=⟨_,rfl⟩
  have hltR:∀ {b e},R b e->b < wl.heap.size/\e < w.heap.size:=fun h=>hw.lt h
  have hbfn:=hF.new
  have hone:R'.One:=by
   rw [hR']
   refine ⟨fun b e e' x y=>?_,fun b b' e x y=>?_⟩
   ·rcases x with x | ⟨x1,x2⟩ | ⟨x1,x2⟩ | ⟨x1,x2⟩ | ⟨k,hkM,x1,x2⟩ <;> rcases y with y | ⟨y1,y2⟩ | ⟨y1,y2⟩ | ⟨y1,y2⟩ | ⟨k',hkM',y1,y2⟩
    ·exact hw.one.1 _ _ _ x y
    all_goals first
     | omega
     | (have:=hltR x; omega)
     | (have:=hltR y; omega)
     | (have:=hltR x; have:=rowL k' b hkM' y1; omega)
     | (have:=hltR y; have:=rowL k b hkM x1; omega)
     | (have:=rowL k' b hkM' y1; omega)
     | (have:=rowL k b hkM x1; omega)
     | (have:=hI.once k k' b hkM hkM' x1 y1; subst this; rw [x2] at y2; exact Option.some.inj y2)
   ·rcases x with x | ⟨x1,x2⟩ | ⟨x1,x2⟩ | ⟨x1,x2⟩ | ⟨k,hkM,x1,x2⟩ <;> rcases y with y | ⟨y1,y2⟩ | ⟨y1,y2⟩ | ⟨y1,y2⟩ | ⟨k',hkM',y1,y2⟩
    ·exact hw.one.2 _ _ _ x y
    all_goals first
     | omega
     | (have:=hltR x; omega)
     | (have:=hltR y; omega)
     | (have:=hltR x; have:=rowR k' e hkM' y2; omega)
     | (have:=hltR y; have:=rowR k e hkM x2; omega)
     | (have:=rowR k' e hkM' y2; omega)
     | (have:=rowR k e hkM x2; omega)
     | (have:=onceR k k' e hkM hkM' x2 y2; subst this; rw [x1] at y1; exact Option.some.inj y1)
  have hle:R.le R':=⟨fun _ _ h=>by rw [hR']; exact Or.inl h,fun _=>hone⟩
  have inC:R' gc bc:=by rw [hR']; exact .inr (.inl ⟨rfl,rfl⟩)
  have inL:R' ll bl:=by rw [hR']; exact .inr (.inr (.inl ⟨rfl,rfl⟩))
  have inF:R' lf bf:=by rw [hR']; exact .inr (.inr (.inr (.inl ⟨rfl,rfl⟩)))
  have inR:∀ k b e,k < 2 * (W + H)->(xl k).ownBlock=some b->(xs k).ownBlock=some e->R' b e:=fun k b e hkM x1 x2=>by rw [hR']; exact .inr (.inr (.inr (.inr ⟨k,hkM,x1,x2⟩)))
  have cases':∀ {b e},R' b e->R b e\/(b=gc/\e=bc)\/(b=ll/\e=bl)\/(b=lf/\e=bf)\/∃ k,k < 2 * (W + H)/\(xl k).ownBlock=some b/\(xs k).ownBlock=some e:=fun h=>by rw [hR'] at h; exact h
  have hgc:=zfw hI.grid
  refine ⟨0,gs1,u2,sl1,t1,q1,Sh,R',_,_,wl',rfl,h01,hB1,hd,hle,zm4 inC inL inF,⟨hone,?_,rfl,rfl,?_⟩,?_,?_,?_,hbelow u2 hkw⟩
  ·intro b e hbe
   rcases cases' hbe with hbe | ⟨rfl,rfl⟩ | ⟨rfl,rfl⟩ | ⟨rfl,rfl⟩ | ⟨k,hkM,x1,x2⟩
   ·obtain ⟨o,o',e1,e2,ho⟩:=hold (wl'.tp wl.tape wl.drawn) u2 hI.below hkw b e hbe
    exact ⟨o,o',e1,e2,ho.mono hle⟩
   ·exact ⟨_,_,hgc.2,hCu,.cells (zj4 (zhL gl)) (fun h=>by omega) (fun _=>rfl)⟩
   ·refine ⟨_,_,hI.lights,hLo,.cells ⟨by simp [hI.sizeL],fun i hi1 hi2=>?_⟩ (fun h=>by omega) (fun _=>rfl)⟩
    have hi:i < 2 * (W + H):=by rw [hI.sizeL] at hi1; exact hi1
    have e1:=hI.atL i hi
    rw [Array.getElem?_eq_getElem hi1] at e1
    rw [Option.some.inj e1]
    simp only [Array.getElem_ofFn]
    exact .int _ _
   ·refine ⟨_,_,hI.feet,hF.all,.cells ⟨by simp [hI.sizeF],fun i hi1 hi2=>?_⟩ (fun h=>by omega) (fun _=>rfl)⟩
    have hi:i < 2 * (W + H):=by rw [hI.sizeF] at hi1; exact hi1
    have e1:=hI.atF i hi
    rw [Array.getElem?_eq_getElem hi1] at e1
    rw [Option.some.inj e1]
    simp only [Array.getElem_ofFn]
    rcases hrow i hi with ⟨f1,f2⟩ | ⟨b,e,C,f1,f2,_⟩
    ·rw [f1,f2]
     exact .nilSlice _ _
    ·rw [f1,f2]
     exact .slice _ _ ⟨inR i b e hi (by rw [f1]; rfl) (by rw [f2]; rfl),rfl,rfl⟩
   ·rcases hrow k hkM with ⟨f1,_⟩ | ⟨b',e',C,f1,f2,f3,f4,f5,_⟩
    ·rw [f1] at x1; simp [Value.ownBlock] at x1
    ·rw [f1] at x1
     rw [f2] at x2
     simp [Value.ownBlock] at x1 x2
     subst x1
     subst x2
     exact ⟨_,_,f3,f4,.cells (zj4 (ziF _ _)) (fun h=>by omega) (fun _=>rfl)⟩
  ·show N<=wl'.heap.size
   omega
  ·intro b e hbe hs
   rcases cases' hbe with hbe | ⟨rfl,rfl⟩ | ⟨rfl,rfl⟩ | ⟨rfl,rfl⟩ | ⟨k,hkM,x1,x2⟩
   ·rcases hShS e hs with x | x
    ·exact hSh b e hbe x
    ·have:=(hltR hbe).2
     omega
   ·rcases hShS _ hs with x | x
    ·exact hnc x
    ·omega
   ·exact hnl hs
   ·exact hF.seen hs
   ·exact (rowR k e hkM x2).2.2.2 hs
  ·intro b e hbe hb
   rcases cases' hbe with hbe | ⟨rfl,rfl⟩ | ⟨rfl,rfl⟩ | ⟨rfl,rfl⟩ | ⟨k,hkM,x1,x2⟩
   ·exact hN b e hbe hb
   ·omega
   ·omega
   ·omega
   ·have:=(rowR k e hkM x2).1; omega
  ·intro e he
   rcases hShS e he with x | x
   ·exact hShN e x
   ·omega
end
end Go.Proofs.YtfbbcooklhmeaaaGreat
