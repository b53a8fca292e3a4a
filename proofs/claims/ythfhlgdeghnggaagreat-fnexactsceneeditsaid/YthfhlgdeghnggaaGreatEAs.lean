/- Part. -/
import Derived.Lib.SmallJoins
import Derived.Deep.SlicePairs
import Derived.Deep.Matrix
import Derived.Test.YthfhlgdeghnggaaGreatEAi
import Derived.Test.YthfhlgdeghnggaaGreatEAr
set_option maxHeartbeats 800000
set_option maxRecDepth 100000
namespace Go.Proofs.YthfhlgdeghnggaaGreat
variable{FinP:Frame->Wq}{f:FuncId}{fs:List (List Int)}{l0:List (Nat × Obj)}{ls xs:List Int}{vs:List Value}{N cap i m n:Nat}{p:Nat->Func->Bool}{K:Np}{a ga:Od}{z:Option (Array Value)}{u:TypeId}{v:Value}{w w' w1:World}
open _root_.Go.Proofs.Tryz
section
open Go Go.Conc Go.ConcN
open Go.RowKit
variable{L M:Program}
open Classical in
noncomputable def zrn(K:Np)(v:Value):Value:=if zaj (zcN K) v v then v else ztn v
theorem zro(hx:zdT=false)(v:Value):zaj (zcN K) (zrn K v) v:=by
 unfold zrn
 split
 ·assumption
 ·exact zlZ hx (zfl K) v
theorem zlY(k:IntKind)(n:Int):zrn K (.int k n)=.int k n:=by
 unfold zrn
 rw[if_pos (.int k n)]
noncomputable def zhU(K:Np)(w:World):World:={ w with heap:=w.heap.map fun|.cells c e _=>.cells (c.map (zrn K)) e (0,c.size)|.map _ _=>.coro none|o=>o }
theorem zfN(K:Np)(w:World)(a:Addr):(zhU K w).cell? a=(w.cell? a).map (zrn K):=by
 unfold World.cell? zhU
 simp only[Array.getElem?_map]
 cases w.heap[a.block]? with
 | none=>rfl
 | some o =>
  cases o with
  | cells c e f =>
   simp only[Option.map_some]
   split
   ·rfl
   ·simp
  | _=>rfl
theorem zei(K:Np)(w:World):(zhU K w).heap.size=w.heap.size:=by simp[zhU]
theorem zqL(h:Closed K w):zbh w.heap.size (zcN K) (zhU K w) w:=by
 refine⟨zfl K,?_,rfl,rfl,by rw[zei];exact Nat.le_refl _⟩
 rintro b c ⟨rfl,hb⟩
 rcases h b hb with ⟨x,e,f,hx,h0⟩|⟨ho,⟨a,l,hx,hr⟩|⟨c,n,hx⟩⟩
 ·exact⟨.cells (x.map (zrn K)) e (0,x.size),.cells x e f,by simp[zhU,hx],hx,.cells ⟨qm,fun i h1 h2=>by simp only[Array.getElem_map];exact zro h0 _⟩ (fun _ i hi=>⟨Nat.zero_le _,by simpa using hi⟩) (fun q=>absurd (gei hx).1 q)⟩
 ·exact⟨.number a l,.number a l,by simp[zhU,hx],hx,.other (.number hr) (fun _ _ q=>by cases q)⟩
 ·exact⟨.coro none,.map c n,by simp[zhU,hx],hx,.other .hid (fun _ _ q=>by cases q)⟩
def rowsOf(w:World):Np:=fun b=>∃ c e f,w.heap[b]?=some (.cells c e f)
theorem zie(hx:zdT=false):Closed (rowsOf w) w:=fun _ ⟨c,e,f,h⟩=>.inl ⟨c,e,f,h,hx⟩
theorem zoO[T:zaF L M][zaF L L](W:Whole L){X:FuncId->Prop}(B:Bodies L M X){fn:Func}(hf:L.funcs[f]?=some fn)(hb:fn.body.isSome=true)(h5:¬ X f)(h0:zcJ fn=true)(h6:M.inits.idxOf? f=none){a:Array Value}(h7:Closed K w)(ha:zay (zcN K) a a)(hX:XOk L M X w.heap.size){PostL Post:Value->Wq}(hP:∀ v w τ d,PostL v w->PostL v (w.tp τ d))(hC:∀ τ d,Calls L f a ((zhU K w).tp τ d) fun e w'=>∃ v,e=.returned v/\PostL v w')(h4:∀ R v v' wl w',zaj R v v'->PostL v wl->xE w w'->Post v' w') :
  ∃ n last o w' t',runNT M (n+1) (solo (G (Frame.enter M f a .normal) []) w) #[]=(.ended o w',t')/\runN M n (solo (G (Frame.enter M f a .normal) []) w)=.next last/\step M last=.ended o w'/\Go.Conc.Good M Post last o w' t':=by
 have h1:zgQ L (zcN K) (Frame.enter L f a .normal) (Frame.enter M f a .normal):=zed B hf hb h5 ha
 have h2:=zqL h7
 have hG:=zej hf h0 hP hC
 have hT:=zdx W (ztj.tp (L:=L) (f:=f) (Post:=PostL)) hG ⟨_,_,_,[],_,h1,.nil,h2⟩
 rw[solo_eq_crowd]
 refine zq0 B W.zero hX (w0:=w) (Post:=Post) ?_ hT (zcN K) _ [] w (fun _=>False) #[G (Frame.enter M f a .normal) []] #[] (fun _=>0) none h1 .nil (by
  have e:(zhU K w).tp w.tape w.drawn=zhU K w:=rfl
  rw[e]
  exact h2) (zsz M _ w) rfl (fun _ _ _ h=>h) (fun b c hbc hn=>by rw[<- hbc.1];exact hn) (fun _ h=>h.elim) (Nat.le_refl _) (Below.refl _ _)
 rintro R fr fr' wl w1 ⟨ho,t,rfl,ht⟩ hF h8
 obtain⟨e,fn1,h3,hp⟩:=hF wl.tape wl.drawn
 rw[hf] at h3
 cases h3
 refine⟨fn,by show M.funcs[fr.fn]?=some fn;rw[e];exact B.same f fn hf hb h5,h0,by show M.inits.idxOf? fr.fn=none;rw[e];exact h6,?_⟩
 exact h4 R _ _ wl w1 (zjx rfl ht) (hp wl.tape wl.drawn) h8
end
section
open Go Go.Conc Go.RowKit
theorem zhM{L:Program}{ty:TypeId}{o:Oper}{a:Act}{z:Operand}{r:Next}{p:Addr}{ob:Obj}(h0:o.op=.load ty z)(hz:a.eval z=.pointer (some p))(h3:(isAgg ty).run L w=.ok false w)(hb:w.heap[p.block]?=some ob)(h4:∀ x y,ob≠.view x y)(h:(execOp a.eval o).run L w=.ok r w') :
  p.spot=none/\∃ c e f,w.heap[p.block]?=some (.cells c e f):=by
 unfold execOp at h
 simp only[h0,hz] at h
 rw[Sem.run_bind] at h
 cases hl:(Instr.loadAt ty (.pointer (some p))).run L w with
 | ok y w1 =>
  unfold Instr.loadAt loadVar at hl
  simp only[Instr.sureAddr,Sem.run_bind,Sem.run_pure,Result.andThen_ok,h3] at hl
  have hl':(load p).run L w=.ok y w1:=hl
  rw[_root_.Go.run_load] at hl'
  cases hc:w.cell? p with
  | some x =>
   obtain⟨c,e,f,h1,_,h2⟩:=zn1 hc
   exact⟨by simpa using h2,c,e,f,h1⟩
  | none =>
   exfalso
   rw[hc] at hl'
   unfold World.farLoad at hl'
   rw[hb] at hl'
   cases ob with
   | view x y=>exact h4 x y rfl
   | _=>cases hl'
 | halt q w1=>rw[hl] at h;cases h
theorem zsF[zmj]{cs:List Frame}{rest:Code}{kk:List Item}(W:Whole Sq.prog){sz:Nat}(hn:n<=9223372036854775806)(he:0<n->∀ ad,ga=some ad->∃ b off c e z,ad=(O b off)/\w1.heap[b]?=some (.cells c e z)) :
  ∀(r i:Nat),i+r=n->∀(u1 u3 u4 u5 u6 u10 u11 u12 u13 u14 u15 u16 u17 u18 u19 u20 u21:Value),zb5 Sq.prog FinP ((base f).at ⟨#[v,u1,.pointer (xA sz),u3,u4,u5,u6,.slice ga n m,J n,J i,u10,u11,u12,u13,u14,u15,u16,u17,u18,u19,u20,u21],[]⟩ (.code ckL::.inLoop ckL::.inBlock 0::.code rest::kk)) cs w1 ->
   (∀ j,i<=j->j<n->∃ b off c e z x y,ga=some (O b off)/\w1.heap[b]?=some (.cells c e z)/\c[off+j * 2]?=some (J x)/\c[off+j * 2+1]?=some (J y))/\∃ u1 u3 u4 u5 u6 u10 u11 u12 u13 u14 u15 u16 u17 u18 u19 u20 u21:Value,zb5 Sq.prog FinP ((base f).at ⟨#[v,u1,.pointer (xA sz),u3,u4,u5,u6,.slice ga n m,J n,J n,u10,u11,u12,u13,u14,u15,u16,u17,u18,u19,u20,u21],[]⟩ (.code rest::kk)) cs w1:=by
 intro r
 induction r with
 | zero =>
  intro i hi u1 u3 u4 u5 u6 u10 u11 u12 u13 u14 u15 u16 u17 u18 u19 u20 u21 t
  obtain rfl:i=n:=qg
  unfold ckL at t
  simp only[opr] at t
  have t:=t.ctl fun _ _=>stepG_seq
  have t:=t.ctl fun _ _=>stepG_region
  simp only[rgs] at t
  have h1:¬ ((i:Int)<(i:Int)):=qg
  have t:=t.value (v:=.bool false) (w':=w1) rfl rfl (Go.ConcR.Gen.base_kind _) qq
  revert t;walk_nrm;intro t
  have t:=t.ctl fun _ _=>stepG_region_end
  have t:=t.ctl fun _ _=>stepG_seq
  have t:=t.ctl fun _ _=>stepG_cond (t:=false) rfl
  simp only[Bool.false_eq_true,↓reduceIte] at t
  have t:=t.ctl fun _ _=>stepG_exit rfl
  exact⟨fun j h1 h2=>qg,_,_,_,_,_,_,_,_,_,_,_,_,_,_,_,_,_,t⟩
 | succ r ih =>
  intro i hi u1 u3 u4 u5 u6 u10 u11 u12 u13 u14 u15 u16 u17 u18 u19 u20 u21 t
  unfold ckL at t
  simp only[opr] at t
  have t:=t.ctl fun _ _=>stepG_seq
  have t:=t.ctl fun _ _=>stepG_region
  simp only[rgs] at t
  have h1:(i:Int)<(n:Int):=qg
  have t:=t.value (v:=.bool true) (w':=w1) rfl rfl (Go.ConcR.Gen.base_kind _) qq
  revert t;walk_nrm;intro t
  have t:=t.ctl fun _ _=>stepG_region_end
  have t:=t.ctl fun _ _=>stepG_seq
  have t:=t.ctl fun _ _=>stepG_cond (t:=true) rfl
  simp only[↓reduceIte] at t
  have t:=t.ctl fun _ _=>stepG_skip
  have t:=t.ctl fun _ _=>stepG_region
  simp only[rgs,Nat.reduceAdd] at t
  obtain⟨x0,w2,hr⟩:=t.ran W rfl rfl
  rcases ga with _|ad
  ·exfalso
   unfold execOp at hr
   simp[Act.eval,Instr.indexAt,asIntOf,boundsPanic] at hr
   have hp:∀(e:RuntimeError) (u:World),∃ q u1,(runtimePanic e:Sem Value).run Sq.prog u=.halt q u1:=fun e u=>let ⟨q,u1,h,_⟩:=zao (P:=Sq.prog) (α:=Value) e u;⟨q,u1,h⟩
   split at hr
   ·split at hr
    ·obtain⟨q,u1,h⟩:=hp _ _;rw[h] at hr;cases hr
    ·obtain⟨q,u1,h⟩:=hp _ _;rw[h] at hr;cases hr
   ·obtain⟨q,u1,h⟩:=hp _ _;rw[h] at hr;cases hr
  clear hr x0 w2
  obtain⟨b,off,c,e,z,rfl,hb⟩:=he qg ad rfl
  have h0:(0:Int)<=(i:Int):=qg
  have t:=t.value (v:=.pointer (some (O b (off+i * 2)))) (w':=w1) rfl rfl (Go.ConcR.Gen.base_kind _) qq
  revert t;walk_nrm;intro t
  have t:=t.value (v:=.pointer (some (O b (off+i * 2)))) (w':=w1) rfl rfl (Go.ConcR.Gen.base_kind _) qq
  revert t;walk_nrm;intro t
  obtain⟨x0,w2,hr⟩:=t.ran W rfl rfl
  obtain⟨c0,h8⟩:=zee (i:=off+i * 2) rfl rfl qm hb hr
  clear hr x0 w2
  have gc0:w1.cell? (O b (off+i * 2))=some c0:=(zda hb).trans h8
  have t:=t.value (v:=c0) (w':=w1) rfl rfl (Go.ConcR.Gen.base_kind _) qq
  revert t;walk_nrm;intro t
  obtain⟨x0,w2,hr⟩:=t.ran W rfl rfl
  obtain⟨x,h7⟩:=zhN rfl hr
  clear hr x0 w2
  simp only[Act.eval,Array.getD_eq_getD_getElem?,List.getElem?_toArray,List.getElem?_cons_succ,List.getElem?_cons_zero,Option.getD_some] at h7
  subst h7
  have t:=t.value (v:=J 0) (w':=w1) rfl rfl (Go.ConcR.Gen.base_kind _) (by (go_simp;decide))
  revert t;walk_nrm;intro t
  have t:=t.value (v:=.pointer (some (O b (off+i * 2+1)))) (w':=w1) rfl rfl (Go.ConcR.Gen.base_kind _) qq
  revert t;walk_nrm;intro t
  obtain⟨x0,w2,hr⟩:=t.ran W rfl rfl
  obtain⟨c1,h9⟩:=zee (i:=off+i * 2+1) rfl rfl qm hb hr
  clear hr x0 w2
  have gc1:w1.cell? (O b (off+i * 2+1))=some c1:=(zda hb).trans h9
  have t:=t.value (v:=c1) (w':=w1) rfl rfl (Go.ConcR.Gen.base_kind _) qq
  revert t;walk_nrm;intro t
  obtain⟨x0,w2,hr⟩:=t.ran W rfl rfl
  obtain⟨y,h7⟩:=zhN rfl hr
  clear hr x0 w2
  simp only[Act.eval,Array.getD_eq_getD_getElem?,List.getElem?_toArray,List.getElem?_cons_succ,List.getElem?_cons_zero,Option.getD_some] at h7
  subst h7
  have t:=t.value (v:=J 0) (w':=w1) rfl rfl (Go.ConcR.Gen.base_kind _) (by (go_simp;decide))
  revert t;walk_nrm;intro t
  have hg:IntKind.i64.wrap ((i:Int)+1)=((i+1:Nat):Int):=by rw[IntKind.wrap_i64];omega
  have t:=t.value (v:=J ((i+1:Nat):Int)) (w':=w1) rfl rfl (Go.ConcR.Gen.base_kind _) qq
  revert t;walk_nrm;intro t
  have t:=t.value (v:=J ((i+1:Nat):Int)) (w':=w1) rfl rfl (Go.ConcR.Gen.base_kind _) qq
  revert t;walk_nrm;intro t
  have t:=t.ctl fun _ _=>stepG_region_end
  have t:=t.ctl fun _ _=>stepG_inLoop
  have hf:i+1+r=n:=qg
  obtain⟨h3,h4⟩:=ih (i+1) hf _ _ _ _ _ _ _ _ _ _ _ _ _ _ _ _ _ t
  refine⟨fun j h5 h6=>?_,h4⟩
  by_cases q:j=i
  ·subst q
   exact⟨b,off,c,e,z,x,y,rfl,hb,h8,h9⟩
  ·exact h3 j qg h6
theorem zn5[zmj]{f:FuncId}{FinP:Frame->Wq}{v:Value}{cs:List Frame}{w:World}{rest:Code}{kk:List Item}(W:Whole Sq.prog)(hk:∀ n m ad,v.cells[1]?=some (.slice (some ad) n m)->0<n->∃ o,w.heap[ad.block]?=some o/\∀ x y,o≠.view x y)(t:zb5 Sq.prog FinP ((base f).at ⟨#[v,undef,undef,undef,undef,undef,undef,undef,undef,undef,undef,undef,undef,undef,undef,undef,undef,undef,undef,undef,undef,undef],[]⟩ (.code (zj7 rest)::kk)) cs w) :
  ∃ wd ga n m,v=.agg (xG wd ga n m)/\n<4611686018427387904/\∀ j,j<n->∃ b off c e z x y,ga=some (O b off)/\w.heap[b]?=some (.cells c e z)/\c[off+j * 2]?=some (J x)/\c[off+j * 2+1]?=some (J y):=by
 unfold zj7 ckA at t
 simp only[opr] at t
 have t:=t.ctl fun _ _=>stepG_seq
 have t:=t.ctl fun _ _=>stepG_region
 simp only[rgs,Nat.reduceAdd] at t
 have t:=t.value (v:=.pointer (xA w.heap.size)) (w':=w.alloc (.cells v.cells 33)) rfl rfl (Go.ConcR.Gen.base_kind _) (by unfold execOp;simp[Instr.box,newVar,newRow,Act.eval])
 revert t;walk_nrm;intro t
 have hb:=(zbv w (.cells v.cells 33)).1
 have h7:∀ r,r<w.heap.size->(w.alloc (.cells v.cells 33)).heap[r]?=w.heap[r]?:=(zbv w (.cells v.cells 33)).2
 obtain⟨w1,h9⟩:∃ w1,w1=w.alloc (.cells v.cells 33):=⟨_,rfl⟩
 rw[<- h9] at t hb h7
 clear h9
 obtain⟨cc,h4⟩:∃ cc,v.cells=cc:=⟨_,rfl⟩
 rw[h4] at hb
 have t:=t.value (v:=.pointer (xA w.heap.size)) (w':=w1) rfl rfl (Go.ConcR.Gen.base_kind _) qq
 revert t;walk_nrm;intro t
 obtain⟨x0,w2,hr⟩:=t.ran W rfl rfl
 obtain⟨c0,h8⟩:=zee (i:=0) rfl rfl qm hb hr
 clear hr x0 w2
 have gc0:w1.cell? (xC w 0)=some c0:=(zda hb).trans h8
 have t:=t.value (v:=c0) (w':=w1) rfl rfl (Go.ConcR.Gen.base_kind _) qq
 revert t;walk_nrm;intro t
 obtain⟨x0,w2,hr⟩:=t.ran W rfl rfl
 obtain⟨wd,h0⟩:=zhN rfl hr
 clear hr x0 w2
 simp only[Act.eval,Array.getD_eq_getD_getElem?,List.getElem?_toArray,List.getElem?_cons_succ,List.getElem?_cons_zero,Option.getD_some] at h0
 subst h0
 have t:=t.value (v:=J 0) (w':=w1) rfl rfl (Go.ConcR.Gen.base_kind _) (by (go_simp;decide))
 revert t;walk_nrm;intro t
 have t:=t.value (v:=.pointer (some (xC w 1))) (w':=w1) rfl rfl (Go.ConcR.Gen.base_kind _) qq
 revert t;walk_nrm;intro t
 obtain⟨x0,w2,hr⟩:=t.ran W rfl rfl
 obtain⟨c1,h5⟩:=zee (i:=1) rfl rfl qm hb hr
 clear hr x0 w2
 have gc1:w1.cell? (xC w 1)=some c1:=(zda hb).trans h5
 have t:=t.value (v:=c1) (w':=w1) rfl rfl (Go.ConcR.Gen.base_kind _) qq
 revert t;walk_nrm;intro t
 obtain⟨x0,w2,hr⟩:=t.ran W rfl rfl
 obtain⟨ga,n,m,h0⟩:=zqC (e:=48) rfl qm hr
 clear hr x0 w2
 simp only[Act.eval,Array.getD_eq_getD_getElem?,List.getElem?_toArray,List.getElem?_cons_succ,List.getElem?_cons_zero,Option.getD_some] at h0
 subst h0
 have t:=t.value (v:=J n) (w':=w1) rfl rfl (Go.ConcR.Gen.base_kind _) qq
 revert t;walk_nrm;intro t
 have t:=t.value (v:=J 0) (w':=w1) rfl rfl (Go.ConcR.Gen.base_kind _) qq
 revert t;walk_nrm;intro t
 have t:=t.value (v:=.bool (decide ((n:Int)<4611686018427387904))) (w':=w1) rfl rfl (Go.ConcR.Gen.base_kind _) qq
 revert t;walk_nrm;intro t
 have t:=t.ctl fun _ _=>stepG_region_end
 have t:=t.ctl fun _ _=>stepG_seq
 obtain⟨q,hq,t⟩:=t.cond
 have he:decide ((n:Int)<4611686018427387904)=q:=by simpa [Act.eval] using hq
 cases q with
 | false=>exact(t.refuse).elim
 | true =>
  simp only[↓reduceIte] at t
  have t:=t.ctl fun _ _=>stepG_skip
  have t:=t.ctl fun _ _=>stepG_seq
  have t:=t.ctl fun _ _=>stepG_block
  have t:=t.ctl fun _ _=>stepG_loop
  have hf:0<n->∀ ad,ga=some ad->∃ o,w.heap[ad.block]?=some o/\∀ x y,o≠.view x y:=fun hs ad e=>by subst e;exact hk n m ad (by rw[h4];exact h5) hs
  have hu:0<n->∀ ad,ga=some ad->∃ b off c e z,ad=(O b off)/\w1.heap[b]?=some (.cells c e z):=by
   intro hl ad e
   subst e
   obtain⟨ob,hg,hw⟩:=hf hl ad rfl
   have hp:w1.heap[ad.block]?=some ob:=(h7 _ (gei hg).1).trans hg
   unfold ckL at t
   simp only[opr] at t
   have t:=t.ctl fun _ _=>stepG_seq
   have t:=t.ctl fun _ _=>stepG_region
   simp only[rgs] at t
   have h1:(0:Int)<(n:Int):=qg
   have t:=t.value (v:=.bool true) (w':=w1) rfl rfl (Go.ConcR.Gen.base_kind _) qq
   revert t;walk_nrm;intro t
   have t:=t.ctl fun _ _=>stepG_region_end
   have t:=t.ctl fun _ _=>stepG_seq
   have t:=t.ctl fun _ _=>stepG_cond (t:=true) rfl
   simp only[↓reduceIte] at t
   have t:=t.ctl fun _ _=>stepG_skip
   have t:=t.ctl fun _ _=>stepG_region
   simp only[rgs,Nat.reduceAdd] at t
   have hz:ad.add (0 * 2)=ad:=by simp[Addr.add]
   have hy:ad.add 0=ad:=by simp[Addr.add]
   have t:=t.value (v:=.pointer (some ad)) (w':=w1) rfl rfl (Go.ConcR.Gen.base_kind _) (by (first|(go_simp;done)|(go_simp;simp[Addr.add];done)))
   revert t;walk_nrm;intro t
   have t:=t.value (v:=.pointer (some ad)) (w':=w1) rfl rfl (Go.ConcR.Gen.base_kind _) (by (first|(go_simp;done)|(go_simp;simp[Addr.add];done)))
   revert t;walk_nrm;intro t
   obtain⟨x0,w2,hr⟩:=t.ran W rfl rfl
   obtain⟨q1,c,e,z,q2⟩:=zhM (p:=ad) rfl rfl qm hp hw hr
   obtain⟨b,off,sp⟩:=ad
   simp only at q1 q2
   subst q1
   exact⟨b,off,c,e,z,rfl,q2⟩
  have hn:n<=9223372036854775806:=by have:=of_decide_eq_true he;omega
  obtain⟨h1,u1,u3,u4,u5,u6,u10,u11,u12,u13,u14,u15,u16,u17,u18,u19,u20,u21,t⟩:=zsF W hn hu n 0 qg _ _ _ _ _ _ _ _ _ _ _ _ _ _ _ _ _ t
  unfold ckS at t
  simp only[opr] at t
  have t:=t.ctl fun _ _=>stepG_seq
  have t:=t.ctl fun _ _=>stepG_region
  simp only[rgs] at t
  obtain⟨x0,w2,hr⟩:=t.ran W rfl rfl
  have h6:=zmz (q:=2) rfl qm ⟨_,rfl⟩ hr
  clear hr x0 w2
  replace h6:v.cells.size=2:=h6
  rw[h4] at h6
  refine⟨wd,ga,n,m,?_,by have:=of_decide_eq_true he;omega,fun j hj=>?_⟩
  ·have e:cc=(xG wd ga n m):=by
    refine Array.ext (by simpa using h6) fun i h2 h3=>?_
    match i,h2 with
    | 0,h2=>rw[Array.getElem?_eq_getElem h2] at h8;simpa using h8
    | 1,h2=>rw[Array.getElem?_eq_getElem h2] at h5;simpa using h5
    | k+2,h2=>omega
   rw[e] at h4
   cases v with
   | agg c=>exact congrArg Value.agg h4
   | _=>exact absurd (congrArg Array.size h4) (by simp[Value.cells])
  ·obtain⟨b,off,c,e,z,x,y,q1,q2,q3⟩:=h1 j (Nat.zero_le _) hj
   obtain⟨o,p1,p2⟩:=hf qg _ q1
   exact⟨b,off,c,e,z,x,y,q1,(h7 b (gei p1).1) ▸ q2,q3⟩
end
section
open Go
theorem ztH(f:Func):Extern.findNext (zc2 f)=none:=by
 have h:Extern.allNextRows.lookup "none"=none:=qh
 simp[Extern.findNext,zc2,h]
theorem ztG(f:Func):Extern.find (zc2 f)=none:=by
 have h1:Extern.allGenericRows.lookup "none"=none:=qh
 have h2:Extern.allTypedRows.lookup "none"=none:=qh
 have h3:Extern.allRows.lookup "none"=none:=qh
 simp[Extern.find,zc2,h1,h2,h3]
theorem zkF{L:Program}{f:Func}(h:L.funcs[i]?=some (zc2 f))(args:Array Value):zcM L (callFunc i args):=by
 intro w
 have e1:¬ (zc2 f).name= "runtime.NumGoroutine":=by show ¬ "none"= "runtime.NumGoroutine";decide
 have e2:((zc2 f).name.endsWith ".init")=false:=by show ("none".endsWith ".init")=false;kernel_rfl
 have e3:(zc2 f).body=none:=rfl
 have hh:∃ w',(callFunc i args).run L w=.halt (.unsupported (.extern "none")) w':=by
  unfold callFunc
  simp[h,e1,e2,e3,ztH,ztG,unsupported]
  rfl
 obtain⟨w',e⟩:=hh
 exact⟨_,w',e,.unsupported _⟩
section
variable{P:Program}{off:Nat->Bool}{alt:Nat->Func->Func}{X:Nat->Bool}
structure zc6(P:Program)(off:Nat->Bool)(alt:Nat->Func->Func)(X:Nat->Bool):Prop where
 globals:P.globals.size=0
 plain:∀(i:Nat) (f:Func),P.funcs[i]?=some f->off i=false->f.body.isSome=true/\(f.name == "runtime.NumGoroutine")=false
 inX:∀ i,X i=true->off i=true
 body:∀(i:Nat) (f:Func),P.funcs[i]?=some f->X i=true->f.body.isSome=true/\(f.name == "runtime.NumGoroutine")=false/\(alt i f).body.isSome=true/\((alt i f).name == "runtime.NumGoroutine")=false/\(alt i f).results=f.results
 none:∀(i:Nat) (f:Func),P.funcs[i]?=some f->off i=true->X i=false->alt i f=zc2 f
theorem zdY{fn:Func}(h:(zaz P off alt).funcs[i]?=some fn):∃ f,P.funcs[i]?=some f/\fn=if off i then alt i f else f:=by
 have h':(P.funcs.mapIdx fun i f=>if off i then alt i f else f)[i]?=some fn:=h
 rw[Array.getElem?_mapIdx] at h'
 cases e:P.funcs[i]? with
 | none=>rw[e] at h';cases h'
 | some f =>
  rw[e] at h'
  exact⟨f,rfl,by simpa using h'.symm⟩
theorem zc6.twin2(C:zc6 P off alt X):zbG (zaz P off alt) P:=by
 obtain⟨T,F⟩:=P
 exact { info:=fun t=>zrK T _ _ t,und:=fun t=>zgz T _ _ t,stood:=fun t=>zpV T _ _ t,eqg:=fun d t=>zpU T _ _ d t,depth:=zjR T _ _,globals:=C.globals,boc:=fun d e n=>zcy T _ _ d e n,cab:=fun d e c o n=>ztd T _ _ d e c o n }
theorem zc6.dead(C:zc6 P off alt X){fn:Func}(h:(zaz P off alt).funcs[i]?=some fn)(hb:fn.body.isSome=false)(args:Array Value):zcM (zaz P off alt) (callFunc i args):=by
 obtain⟨f,hf,e⟩:=zdY h
 cases ho:off i with
 | false =>
  rw[ho] at e
  have e':fn=f:=by simpa using e
  have:=(C.plain i f hf ho).1
  rw[<- e',hb] at this
  cases this
 | true =>
  rw[ho] at e
  have e':fn=alt i f:=by simpa using e
  cases hx:X i with
  | true =>
   have:=(C.body i f hf hx).2.2.1
   rw[<- e',hb] at this
   cases this
  | false =>
   rw[e',C.none i f hf ho hx] at h
   exact zkF h args
theorem zc6.fn(C:zc6 P off alt X){i:Nat}{fn:Func}(h:(zaz P off alt).funcs[i]?=some fn)(hb:fn.body.isSome=true):(fn.name == "runtime.NumGoroutine")=false/\∃ fn':Func,P.funcs[i]?=some fn'/\fn'.body.isSome=true/\(fn'.name == "runtime.NumGoroutine")=false:=by
 obtain⟨f,hf,e⟩:=zdY h
 cases ho:off i with
 | false =>
  rw[ho] at e
  have e':fn=f:=by simpa using e
  obtain⟨h1,h2⟩:=C.plain i f hf ho
  exact⟨by rw[e'];exact h2,f,hf,h1,h2⟩
 | true =>
  rw[ho] at e
  have e':fn=alt i f:=by simpa using e
  cases hx:X i with
  | true =>
   obtain⟨h1,h2,h3,h4,_⟩:=C.body i f hf hx
   exact⟨by rw[e'];exact h4,f,hf,h1,h2⟩
  | false =>
   rw[e',C.none i f hf ho hx] at hb
   cases hb
theorem zc6.twin3(C:zc6 P off alt X):zaF (zaz P off alt) P :=
 {C.twin2 with
  fn:=fun _ _ h hb=>C.fn h hb
  dead:=fun _ _ h hb args=>C.dead h hb args
  types:=rfl }
theorem zc6.self(C:zc6 P off alt X):zaF (zaz P off alt) (zaz P off alt) :=
 {info:=fun _=>rfl,und:=fun _=>rfl,stood:=fun _=>rfl,eqg:=fun _ _=>rfl,depth:=rfl,globals:=C.globals,boc:=fun _ _ _=>rfl,cab:=fun _ _ _ _ _=>rfl
  fn:=fun _ fn h hb=>⟨(C.fn h hb).1,fn,h,hb,(C.fn h hb).1⟩
  dead:=fun _ _ h hb args=>C.dead h hb args
  types:=rfl }
structure zfz(P:Program)(off:Nat->Bool)(alt:Nat->Func->Func)(X:Nat->Bool):Prop where
 code:∀(i:Nat) (f:Func) (c:Code),P.funcs[i]?=some f->off i=false->f.body=some c->codeOk (zaz P off alt) c=true
 acode:∀(i:Nat) (f:Func) (c:Code),P.funcs[i]?=some f->X i=true->(alt i f).body=some c->codeOk (zaz P off alt) c=true
 early:∀ g,(zaz P off alt).stepOf g=none
 ahead:P.follows .staticDataAhead=true
 zero:zbt P
theorem zc6.bodies(C:zc6 P off alt X)(K:zfz P off alt X):Bodies (zaz P off alt) P (fun i=>X i=true) where
 same:=by
  intro i fn h hb hx
  obtain⟨f,hf,e⟩:=zdY h
  cases ho:off i with
  | false =>
   rw[ho] at e
   have e':fn=f:=by simpa using e
   rw[e'];exact hf
  | true =>
   rw[ho] at e
   have e':fn=alt i f:=by simpa using e
   have hx':X i=false:=by simpa using hx
   rw[e',C.none i f hf ho hx'] at hb
   cases hb
 code:=by
  intro i fn c h hc hx
  obtain⟨f,hf,e⟩:=zdY h
  cases ho:off i with
  | false =>
   rw[ho] at e
   have e':fn=f:=by simpa using e
   exact K.code i f c hf ho (by rw[<- e'];exact hc)
  | true =>
   rw[ho] at e
   have e':fn=alt i f:=by simpa using e
   have hx':X i=false:=by simpa using hx
   rw[e',C.none i f hf ho hx'] at hc
   cases hc
 res:=by
  intro i fn fn' h h'
  obtain⟨f,hf,e⟩:=zdY h
  have e2:fn'=f:=by rw[hf] at h';exact(Option.some.inj h').symm
  rw[e2]
  cases ho:off i with
  | false =>
   rw[ho] at e
   have e':fn=f:=by simpa using e
   rw[e']
  | true =>
   rw[ho] at e
   have e':fn=alt i f:=by simpa using e
   cases hx:X i with
   | true=>rw[e',(C.body i f hf hx).2.2.2.2]
   | false=>rw[e',C.none i f hf ho hx];rfl
 early:=K.early
 ahead:=K.ahead
 mixed:=rfl
theorem zc6.whole(C:zc6 P off alt X)(K:zfz P off alt X):Whole (zaz P off alt) where
 same:=fun _ _ h _ _=>h
 code:=by
  intro i fn c h hc _
  obtain⟨f,hf,e⟩:=zdY h
  cases ho:off i with
  | false =>
   rw[ho] at e
   have e':fn=f:=by simpa using e
   exact K.code i f c hf ho (by rw[<- e'];exact hc)
  | true =>
   rw[ho] at e
   have e':fn=alt i f:=by simpa using e
   cases hx:X i with
   | true=>exact K.acode i f c hf hx (by rw[<- e'];exact hc)
   | false =>
    rw[e',C.none i f hf ho hx] at hc
    cases hc
 res:=by
  intro i fn fn' h h'
  rw[h] at h'
  rw[Option.some.inj h']
 early:=K.early
 ahead:=K.ahead
 mixed:=rfl
 zero:=K.zero
end
def zbE(c:Array Value):Prop:=∀ R:BR,zay R c c
def zhF(i:TypeInfo):Prop:=∀ v,i.zero=some v->Plain v
theorem zbE.nil:zbE #[]:=fun _=>zay.nil
theorem zbE.app{c d:Array Value}(h:zbE c)(h2:zbE d):zbE (c++d):=fun R=>(h R).app (h2 R)
theorem Plain.cells(h:Plain v):zbE v.cells:=fun R=>(h R).cells
theorem zbE.agg{c:Array Value}(h:zbE c):Plain (.agg c):=fun R=>.agg (h R).1 (h R).2
theorem zbE.many{c:Array Value}(h:zbE c)(n:Nat):zbE (Array.replicate n c).flatten:=by
 induction n with
 | zero=>simpa using zbE.nil
 | succ n ih =>
  rw[Array.replicate_succ]
  simp only[Array.flatten_push]
  exact ih.app h
theorem zo5{α β:Type}(I:β->Prop){f:α->β->Option (ForInStep β)}(hf:∀ a b r,I b->f a b=some r->I r.value):∀(l:List α) (b b':β),I b->forIn l b f=some b'->I b'
 | [],b,b',h,e=>by
  rw[List.forIn_nil] at e
  cases e
  exact h
 | a::l,b,b',h,e=>by
  rw[List.forIn_cons] at e
  cases q:f a b with
  | none=>rw[q] at e;cases e
  | some r =>
   rw[q] at e
   have h1:=hf a b r h q
   cases r with
   | done d=>cases e;exact h1
   | yield d=>exact zo5 I hf l d b' h1 e
theorem zp5(hz:∀ c,z=some c->zbE c){i:TypeInfo}(hi:zhF i){p:Prop}[Decidable p]:∀ c,(if p then none else (z.bind fun x=>i.zero.bind fun y=>some (x++y.cells)))=some c->zbE c:=by
 intro c h
 split at h
 ·cases h
 ·obtain⟨x,hx,h⟩:=Option.bind_eq_some_iff.1 h
  obtain⟨y,hy,h⟩:=Option.bind_eq_some_iff.1 h
  cases h
  exact(hz x hx).app (hi y hy).cells
theorem zlf{info:TypeId->Option TypeInfo}(hi:∀ t i,info t=some i->zhF i){fs:Array Field}{i:TypeInfo}(h:Made.reckonStruct info fs=some i):zhF i:=by
 unfold Made.reckonStruct at h
 simp only[<- Array.forIn_toList] at h
 obtain⟨s,hs,h⟩:=Option.bind_eq_some_iff.1 h
 have hI:=zo5 (fun s=>∀ c,s.2.2.2.2.2.2.2.1=some c->zbE c) (by
  intro a b r hb e
  obtain⟨j,hj,e⟩:=Option.bind_eq_some_iff.1 e
  have h1:=hi _ _ hj
  split at e
  ·cases e
  split at e
  ·cases e
  split at e
  all_goals
   obtain⟨tag,h0,e⟩:=Option.bind_eq_some_iff.1 e
   clear h0
   generalize (if b.1.size+1<fs.size then ";" else "")=sep at e
   split at e
  all_goals
   have e':=Option.some.inj e
   subst e'
   exact zp5 hb h1) _ _ _ (fun c h=>by cases h;exact zbE.nil) hs
 intro v hv
 have fin:∀ c:Option (Array Value),c=s.2.2.2.2.2.2.2.1->c.map .agg=some v->Plain v:=by
  intro c hc e
  obtain⟨x,hx,e⟩:=Option.map_eq_some_iff.1 e
  rw[<- e]
  exact(hI x (by rw[<- hc];exact hx)).agg
 split at h
 all_goals
  have e:=Option.some.inj h
  subst e
  exact fin _ rfl hv
theorem zcL(d:TypeDesc)(s:String){z:Value}(hz:Plain z)(b:Bool)(n:Nat):zhF (Made.word d s z b n):=by
 intro v hv
 cases hv
 exact hz
theorem zle{info:TypeId->Option TypeInfo}(hi:∀ t i,info t=some i->zhF i){d:TypeDesc}{i:TypeInfo}(h:Made.reckon info d=some i):zhF i:=by
 unfold Made.reckon at h
 cases d with
 | pointer e =>
  obtain⟨j,hj,h⟩:=Option.bind_eq_some_iff.1 h
  simp only at h
  split at h
  ·cases h
  ·split at h
   ·cases h
   ·obtain⟨s,hs,h⟩:=Option.bind_eq_some_iff.1 h
    cases h
    exact zcL _ _ (fun _=>.nilPtr) _ _
  ·obtain⟨s,hs,h⟩:=Option.bind_eq_some_iff.1 h
   cases h
   exact zcL _ _ (fun _=>.nilPtr) _ _
 | slice e =>
  obtain⟨j,hj,h⟩:=Option.bind_eq_some_iff.1 h
  obtain⟨s,hs,h⟩:=Option.bind_eq_some_iff.1 h
  cases h
  exact zcL _ _ (fun _=>.nilSlice 0 0) _ _
 | map k e =>
  obtain⟨j,hj,h⟩:=Option.bind_eq_some_iff.1 h
  obtain⟨s,hs,h⟩:=Option.bind_eq_some_iff.1 h
  obtain⟨j2,h0,h⟩:=Option.bind_eq_some_iff.1 h
  obtain⟨s2,h1,h⟩:=Option.bind_eq_some_iff.1 h
  cases h
  exact zcL _ _ (fun _=>.nilMap) _ _
 | chan dir e =>
  obtain⟨j,hj,h⟩:=Option.bind_eq_some_iff.1 h
  obtain⟨s,hs,h⟩:=Option.bind_eq_some_iff.1 h
  cases h
  exact zcL _ _ (fun _=>.nilChan) _ _
 | func ps rs v =>
  obtain⟨s,hs,h⟩:=Option.bind_eq_some_iff.1 h
  cases h
  exact zcL _ _ (fun _=>.nilFunc) _ _
 | array n e =>
  obtain⟨j,hj,h⟩:=Option.bind_eq_some_iff.1 h
  obtain⟨s,hs,h⟩:=Option.bind_eq_some_iff.1 h
  have e:=Option.some.inj h
  subst e
  intro v hv
  have hv':(if n * j.size > Made.mostCells then none else if n * j.size=0 then some (.agg #[]) else j.zero.map fun z=>.agg ((Array.replicate n z.cells).flatten))=some v:=hv
  split at hv'
  ·cases hv'
  ·split at hv'
   ·cases hv';exact zbE.nil.agg
   ·obtain⟨z,hz,e⟩:=Option.map_eq_some_iff.1 hv'
    rw[<- e]
    exact((hi _ _ hj z hz).cells.many n).agg
 | struct fs=>exact zlf hi h
 | _=>cases h
theorem zgL{T:Tables}(ht:∀ t i,t<T.types.size->T.types[t]?=some i->zhF i):∀(n:Nat) (t:TypeId) (i:TypeInfo),Made.infoAt T n t=some i->zhF i
 | 0,_,_,h=>by cases h
 | n+1,t,i,h=>by
  unfold Made.infoAt at h
  split at h
  ·rename_i h1;exact ht t i h1 h
  ·obtain⟨d,hd,h⟩:=Option.bind_eq_some_iff.1 h
   exact zle (zgL ht n) h
def zr0(i:TypeInfo):Bool:=match i.zero with|some v=>zbx 50 v|none=>true
theorem zti{P:Program}(h:(P.types.toList.all zr0)=true):zbt P:=by
 have ht:∀ t i,t<P.types.size->P.types[t]?=some i->zhF i:=by
  intro t i h1 h2 v hv
  have hm:i∈P.types.toList:=by
   rw[Array.mem_toList_iff]
   exact Array.mem_of_getElem? h2
  have:=List.all_eq_true.1 h i hm
  simp only[zr0,hv] at this
  exact zet 50 v this
 intro t i v hi hv
 have hi':(if t<P.types.size then P.types[t]? else Made.infoAt P.toTables Made.depth t)=some i:=hi
 split at hi'
 ·rename_i h1;exact ht t i h1 hi' v hv
 ·exact zgL ht _ t i hi' v hv
section
variable{P:Program}
def zqa(P:Program)(p:Nat->Func->Bool):Bool:=(List.range P.funcs.size).all fun i=>match P.funcs[i]? with|some f=>p i f|none=>true
theorem zj1(h:zqa P p=true){f:Func}(hf:P.funcs[i]?=some f):p i f=true:=by
 have hi:i<P.funcs.size:=by
  obtain⟨h1,_⟩:=gei hf
  exact h1
 have:=List.all_eq_true.1 h i (List.mem_range.2 hi)
 simpa [hf] using this
end
section
variable{P:Program}{off:Nat->Bool}{alt:Nat->Func->Func}{X:Nat->Bool}
def zpe(off:Nat->Bool)(i:Nat)(f:Func):Bool:=off i || (f.body.isSome && !(f.name == "runtime.NumGoroutine"))
def readyB(f:Func):Bool:=match f.body with|some c=>(readies c).isEmpty|none=>true
theorem zqz(h:zqa P (fun i f=>readyB f && (!(off i) || readyB (alt i f)))=true)(g:Nat):(zaz P off alt).stepOf g=none:=by
 unfold Program.stepOf
 rw[Array.findIdx?_eq_none_iff]
 intro fn h0
 obtain⟨i,hi,e⟩:=Array.mem_iff_getElem.1 h0
 have hg:(zaz P off alt).funcs[i]?=some fn:=by rw[Array.getElem?_eq_getElem hi,e]
 obtain⟨f,hf,e2⟩:=zdY hg
 have h1:=zj1 h hf
 have h2:readyB fn=true:=by
  cases ho:off i with
  | false=>simp[ho] at e2;rw[e2];simp at h1;exact h1.1
  | true=>simp[ho] at e2;rw[e2];simp[ho] at h1;exact h1.2
 unfold readyB at h2
 cases hb:fn.body with
 | none=>simp
 | some c =>
  simp only[hb] at h2
  have h3:readies c=[]:=by simpa using h2
  simp[h3]
theorem zlr(hg:P.globals.size=0)(h1:zqa P (zpe off)=true)(hX:∀ i,X i=true->off i=true)(hx:∀(i:Nat) (f:Func),P.funcs[i]?=some f->X i=true->f.body.isSome=true/\(f.name == "runtime.NumGoroutine")=false/\(alt i f).body.isSome=true/\((alt i f).name == "runtime.NumGoroutine")=false/\(alt i f).results=f.results)(hn:∀(i:Nat) (f:Func),off i=true->X i=false->alt i f=zc2 f):zc6 P off alt X where
 globals:=hg
 plain:=by
  intro i f hf ho
  have:=zj1 h1 hf
  simpa [zpe,ho] using this
 inX:=hX
 body:=hx
 none:=fun i f _ ho hx=>hn i f ho hx
def zqr(L:Program)(off:Nat->Bool)(i:Nat)(f:Func):Bool:=off i || (match f.body with|some c=>codeOk L c|none=>true)
theorem zg2(hc:zqa P (zqr (zaz P off alt) off)=true)(ha:∀(i:Nat) (f:Func) (c:Code),P.funcs[i]?=some f->X i=true->(alt i f).body=some c->codeOk (zaz P off alt) c=true)(he:zqa P (fun i f=>readyB f && (!(off i) || readyB (alt i f)))=true)(hd:P.follows .staticDataAhead=true)(hz:(P.types.toList.all zr0)=true):zfz P off alt X where
 code:=by
  intro i f c hf ho hb
  have:=zj1 hc hf
  simpa [zqr,ho,hb] using this
 acode:=ha
 early:=zqz he
 ahead:=hd
 zero:=zti hz
end
def Sq.X(i:Nat):Bool:=i == 54
theorem Sq.plain:zqa Tryz.prog (zpe Sq.off)=true:=qh
theorem Sq.globals:Tryz.prog.globals.size=0:=qh
theorem Sq.ahead:Tryz.prog.follows .staticDataAhead=true:=qh
theorem Sq.zeros:Tryz.prog.types.toList.all zr0=true:=qh
theorem Sq.codeP:zqa Tryz.prog (zqr (zaz Tryz.prog Sq.off Sq.altP) Sq.off)=true:=qh
theorem Sq.codeN:zqa Tryz.prog (zqr (zaz Tryz.prog Sq.off Sq.altN) Sq.off)=true:=qh
theorem Sq.readyP:zqa Tryz.prog (fun i f=>readyB f && (!(Sq.off i) || readyB (Sq.altP i f)))=true:=qh
theorem Sq.readyN:zqa Tryz.prog (fun i f=>readyB f && (!(Sq.off i) || readyB (Sq.altN i f)))=true:=qh
theorem Sq.codeS:codeOk (zaz Tryz.prog Sq.off Sq.altP) zsD=true:=qh
theorem Sq.one(i:Nat)(h:Sq.X i=true):i=54:=by simpa [Sq.X] using h
theorem Sq.okN:zc6 Tryz.prog Sq.off Sq.altN (fun _=>false):=zlr Sq.globals Sq.plain (fun _ h=>by cases h) (fun _ _ _ h=>by cases h) (fun _ _ _ _=>rfl)
theorem Sq.okP:zc6 Tryz.prog Sq.off Sq.altP Sq.X:=by
 refine zlr Sq.globals Sq.plain (fun i h=>?_) (fun i f hf h=>?_) (fun i f _ h=>?_)
 ·rcases Sq.one i h with rfl
  all_goals rfl
 ·rcases Sq.one i h with rfl
  ·have e:=func54
   rw[hf] at e
   obtain rfl:=Option.some.inj e
   exact⟨rfl,rfl,rfl,rfl,rfl⟩
 ·have h':(i == 54)=false:=h
  simp only[Sq.altP,h',Bool.false_eq_true,↓reduceIte]
theorem Sq.ckN:zfz Tryz.prog Sq.off Sq.altN (fun _=>false):=zg2 Sq.codeN (fun _ _ _ _ h=>by cases h) Sq.readyN Sq.ahead Sq.zeros
theorem Sq.ckP:zfz Tryz.prog Sq.off Sq.altP Sq.X:=zg2 Sq.codeP (fun i f c _ h hb=>by
 rcases Sq.one i h with rfl
 ·have e:(Sq.altP 54 f).body=some zsD:=rfl
  rw[e] at hb
  obtain rfl:=Option.some.inj hb
  exact Sq.codeS) Sq.readyP Sq.ahead Sq.zeros
instance Sq.twinP:zaF (@Sq.prog Sq.P) Tryz.prog:=Sq.okP.twin3
instance Sq.selfP:zaF (@Sq.prog Sq.P) (@Sq.prog Sq.P):=Sq.okP.self
instance Sq.twinN:zaF (@Sq.prog Sq.N) Tryz.prog:=Sq.okN.twin3
instance Sq.selfN:zaF (@Sq.prog Sq.N) (@Sq.prog Sq.N):=Sq.okN.self
theorem Sq.wholeP:Whole (@Sq.prog Sq.P):=Sq.okP.whole Sq.ckP
noncomputable abbrev SqN.prog:Program:=SqG.prog Sq.altN
end
section
open Go Go.Conc Go.ConcN Go.RowKit Go.Conc.Lib Go.ConcR.Gen Go.ConcN.Gen
open Go.ConcR (KK wgBlock WgAt stA smA rd wr mk Payload Aside2 DC0)
theorem zeo:zdT=false:=rfl
def rng(R:BR):Np:=fun c=>∃ b,R b c
theorem zbY.snd{R:BR}{a c:Addr}(h:zbY R a c):zbY (zcN (rng R)) c c:=⟨⟨rfl,_,h.1⟩,rfl,rfl⟩
theorem zaj.slice_fst{R:BR}{a':Addr}{c:Nat}(h:zaj R (.slice ga n c) (.slice (some a') n c))(hn:0<n):∃ a,ga=some a/\zbY R a a':=by
 cases h with
 | slice _ _ h=>exact⟨_,rfl,h⟩
 | empty _ _=>omega
theorem zew{R:BR}{ga':Od}(h:zaj R (.slice ga n m) (.slice ga' n m)):zaj (zcN (rng R)) (.slice ga' n m) (.slice ga' n m):=by
 cases h with
 | slice _ _ h=>exact .slice _ _ h.snd
 | nilSlice _ _=>exact .nilSlice _ _
 | empty _ _=>exact .empty _ _
theorem zm1{R:BR}(h:zbh N R w w'):Closed (rng R) w':=by
 rintro c ⟨b,hb⟩
 obtain⟨o,o',_,e2,ho⟩:=h.blk b c hb
 cases ho with
 | cells hr _ _=>exact .inl ⟨_,_,_,e2,zeo⟩
 | other hj _ =>
  cases hj with
  | map _=>exact .inr ⟨zeo,.inr ⟨_,_,e2⟩⟩
  | hid=>exact .inr ⟨zeo,.inr ⟨_,_,e2⟩⟩
  | number ha=>exact .inr ⟨zeo,.inl ⟨_,_,e2,ha.snd⟩⟩
open Classical in
noncomputable def held(K:Np)(w:World):List (Nat × Obj):=(List.range w.heap.size).filterMap fun c=>if K c then (w.heap[c]?).map fun o=>(c,o) else none
theorem zbu{p:Nat × Obj}:p∈held K w ↔ K p.1/\w.heap[p.1]?=some p.2:=by
 classical
 unfold held
 simp only[List.mem_filterMap,List.mem_range]
 constructor
 ·rintro⟨c,_,h⟩
  split at h
  ·rename_i hk
   obtain⟨o,ho,rfl⟩:=Option.map_eq_some_iff.1 h
   exact⟨hk,ho⟩
  ·cases h
 ·rintro⟨hk,ho⟩
  refine⟨p.1,(gei ho).1,?_⟩
  rw[if_pos hk,ho]
  rfl
theorem zoC(K:Np)(w:World):Hp (held K w) w:=fun _ h=>(zbu.1 h).2
theorem zkn(h:Closed K w)(hp:Hp (held K w) w1):Closed K w1:=fun b hb=>by
 rcases h b hb with ⟨c,e,f,hx,hr⟩|⟨ho,⟨a,l,hx,hr⟩|⟨c,n,hx⟩⟩
 ·exact .inl ⟨c,e,f,hp (b,_) (zbu.2 ⟨hb,hx⟩),hr⟩
 ·exact .inr ⟨ho,.inl ⟨a,l,hp (b,_) (zbu.2 ⟨hb,hx⟩),hr⟩⟩
 ·exact .inr ⟨ho,.inr ⟨c,n,hp (b,_) (zbu.2 ⟨hb,hx⟩)⟩⟩
theorem zn4{cs:Lp}(h:Sp.zaf w a cs)(hb:∀ b off,a=some (O b off)->w1.heap[b]?=w.heap[b]?)(τ:Nat->Question->Nat)(d:Nat):Sp.zaf (w1.frz.tp τ d) a cs:=by
 rcases h with h|⟨b,off,rfl,hl,hc⟩
 ·exact .inl h
 ·have e:=hb b off rfl
  have h0:∀ i,w1.cell? (O b i)=w.cell? (O b i):=fun i=>by simp only[World.cell?,e]
  have hc2:∀ i (x:Int),w.cell? (O b i)=some (J x)->(w1.frz.tp τ d).cell? (O b i)=some (J x):=fun i x h=>by
   have q:=zqM w1 (O b i)
   rw[h0,h] at q
   exact q
  refine .inr ⟨b,off,rfl,?_,fun i hi=>⟨hc2 _ _ (hc i hi).1,hc2 _ _ (hc i hi).2⟩⟩
  show b<w1.frz.heap.size
  rw[zfk]
  rw[Array.getElem?_eq_getElem hl] at e
  exact(gei e).1
theorem zmt(h:∀ j,j<n->∃ b off c e z x y,ga=some (O b off)/\w.heap[b]?=some (.cells c e z)/\c[off+j * 2]?=some (J x)/\c[off+j * 2+1]?=some (J y)) :
  ∃ cs:Lp,cs.length=n/\Sp.zaf w ga cs:=by
 classical
 have hx:∀ j:Fin n,∃ p:Int × Int,∃ b off c e z,ga=some (O b off)/\w.heap[b]?=some (.cells c e z)/\c[off+j.val * 2]?=some (J p.1)/\c[off+j.val * 2+1]?=some (J p.2):=fun j=>by
  obtain⟨b,off,c,e,z,x,y,h1,h2,h3,h4⟩:=h j.val j.isLt
  exact⟨(x,y),b,off,c,e,z,h1,h2,h3,h4⟩
 obtain⟨f,hf⟩:=Classical.axiomOfChoice hx
 refine⟨List.ofFn f,qm,?_⟩
 by_cases hn:n=0
 ·subst hn;exact .inl qm
 ·obtain⟨b,off,c,e,z,h1,h2,_,_⟩:=hf ⟨0,qg⟩
  refine .inr ⟨b,off,h1,(gei h2).1,fun i hi=>?_⟩
  have hi':i<n:=by simpa using hi
  obtain⟨b1,off1,c1,e1,z1,q1,q2,q3,q4⟩:=hf ⟨i,hi'⟩
  rw[h1] at q1
  cases q1
  rw[h2] at q2
  cases q2
  have eg:(List.ofFn f).getD i (0,0)=f ⟨i,hi'⟩:=by simp[List.getD,hi']
  rw[eg]
  exact⟨by simp only[World.cell?,h2];exact q3,by simp only[World.cell?,h2];exact q4⟩
theorem zj6{R:BR}(hw:zbh N R w w'){ga':Od}(hv:zaj R (.slice ga n m) (.slice ga' n m)){cs:Lp}(hn:cs.length<=n)(h:Sp.zaf w ga cs):Sp.zaf w' ga' cs:=by
 rcases h with h|⟨b,off,rfl,hl,hc⟩
 ·exact .inl h
 ·cases hv with
  | slice _ _ ha =>
   rename_i ad'
   obtain⟨b',off',sp'⟩:=ad'
   obtain⟨h1,h2,h3⟩:=ha
   simp only at h1 h2 h3
   subst h2 h3
   refine .inr ⟨b',off,rfl,(hw.lt h1).2,fun i hi=>?_⟩
   obtain⟨c1,c2⟩:=hc i hi
   obtain⟨v1,e1,r1⟩:=hw.cell (a:=(O b (off+i * 2))) (c:=(O b' (off+i * 2))) ⟨h1,rfl,rfl⟩ c1
   obtain⟨v2,e2,r2⟩:=hw.cell (a:=(O b (off+i * 2+1))) (c:=(O b' (off+i * 2+1))) ⟨h1,rfl,rfl⟩ c2
   rw[e1,e2]
   exact⟨congrArg some (zc0 r1),congrArg some (zc0 r2)⟩
  | empty _ _=>exact .inl (List.eq_nil_of_length_eq_zero qg)
end
section
open Go.ChangeShapes Go.WideShapes Go.ChangeAt Go.RowKit Go.Joins Go.Deep
theorem own:ownKnob Tryz.prog.godebug=none:=qh
theorem laidOut:laidOutB Tryz.prog=true:=qh
theorem zn2:Tryz.prog.cellsOf 43=2:=qh
theorem zsB:Tryz.prog.cellsOf 24=2:=qh
theorem zcP:Tryz.prog.cellsOf 3=1:=qh
theorem zgS{H:Type}{enc:TypeId × Value->H}{W:World}{fuel:Nat}{x:DataW H × List MemPlace}(h:DataW.trod enc Tryz.prog W 0 (fun _=>true) true fuel 22 vs=some x) :
  ∃ a cap cs,vs=[.slice a (List.length cs) cap]/\Sp.zaf W a cs/\cs.length<=9223372036854775807:=by
 rcases open_slice_pairs Tryz.underlying22 Tryz.underlying43 zn2 rfl rfl zcP zcP h with ⟨rfl,_⟩|⟨a,len,cap,m,n,V0,V1,D0,D1,P0,P1,rfl,_,hl,hm,h3,_,hc⟩
 ·exact⟨none,0,[],rfl,Or.inl rfl,qm⟩
 ·have hm':m=cap:=by simpa using h3
  have each:∀ i,i<len->∃ q:Int × Int,W.cell? (a.add (i * 2))=some (J q.1)/\W.cell? (a.add (i * 2+1))=some (J q.2):=by
   intro i hi
   obtain⟨e0,e1,t0,t1⟩:=hc i qg
   obtain⟨x0,h0,_⟩:=DataW.trod_int Tryz.underlying3 t0
   obtain⟨x1,h1,_⟩:=DataW.trod_int Tryz.underlying3 t1
   simp only[List.cons.injEq,and_true] at h0 h1
   rw[h0] at e0
   rw[h1] at e1
   exact⟨(x0,x1),e0,e1⟩
  obtain⟨q,hq⟩:=choose_lt each
  refine⟨some a,cap,(List.range len).map q,qm,?_,by unfold maxLen at hm;simp;omega⟩
  by_cases h0:len=0
  ·subst h0;exact Or.inl rfl
  ·obtain⟨b,off,spot⟩:=a
   have hs:spot=none:=by simpa [Addr.add] using World.cell?_spot (hq 0 qg).1
   subst hs
   have h2:∀ j,((O b off):Addr).add j=(O b (off+j)):=by intro j;unfold Addr.add;split <;> simp_all
   refine Or.inr ⟨b,off,rfl,?_,fun i hi=>?_⟩
   ·have h1:=(hq 0 qg).1
    rw[h2] at h1
    exact World.block_lt_of_cell? W _ h1
   ·have hi':i<len:=by simpa using hi
    have h1:=hq i hi'
    rw[h2,h2] at h1
    have hg:((List.range len).map q).getD i (0,0)=q i:=by simp[hi']
    rw[hg]
    exact h1
theorem zpl{a:Addr}(h:w.cell? a=some v):rowsOf w a.block:=by
 unfold World.cell? at h
 cases hb:w.heap[a.block]? with
 | none=>simp[hb] at h
 | some x =>
  cases x with
  | cells c e f=>exact⟨c,e,f,hb⟩
  | _=>simp[hb] at h
theorem zm9{c:Nat}(hn:n<=c)(h:∀ x,a=some x->0<c->rowsOf w x.block):zaj (zcN (rowsOf w)) (.slice a n c) (.slice a n c):=by
 cases a with
 | none=>exact .nilSlice _ _
 | some x =>
  rcases Nat.eq_zero_or_pos c with rfl|hc
  ·obtain rfl:n=0:=qg
   exact .empty _ _
  ·exact .slice _ _ ⟨⟨rfl,h x rfl hc⟩,rfl,rfl⟩
theorem zpq(h:zaj (zcN K) v v):zrn K v=v:=by
 unfold zrn
 rw[if_pos h]
def R2K(w:World)(a:Od)(fs:List (List Int)):Prop:=fs=[]\/∃ b off,a=some (O b off)/\b<w.heap.size/\∀ k,k<fs.length->∃ a' c',w.cell? (O b (off+k))=some (.slice a' (fs.getD k []).length c')/\zaj (zcN (rowsOf w)) (.slice a' (fs.getD k []).length c') (.slice a' (fs.getD k []).length c')/\Sp.zcA w a' (fs.getD k [])
theorem zsf(h:Sp.zcA w a xs)(τ:Nat->Question->Nat)(d:Nat):Sp.zcA ((zhU (rowsOf w) w).tp τ d) a xs:=by
 rcases h with h|⟨b,off,rfl,hl,hc⟩
 ·exact .inl h
 ·refine .inr ⟨b,off,rfl,by show b<(zhU (rowsOf w) w).heap.size;rw[zei];exact hl,fun i hi=>?_⟩
  have q:=zfN (rowsOf w) w (O b (off+i))
  rw[hc i hi,Option.map_some,zlY] at q
  exact q
theorem ztN(h:R2K w a fs)(τ:Nat->Question->Nat)(d:Nat):Sp.zc7 ((zhU (rowsOf w) w).tp τ d) a fs:=by
 rcases h with h|⟨b,off,rfl,hl,hc⟩
 ·exact .inl h
 ·refine .inr ⟨b,off,rfl,by show b<(zhU (rowsOf w) w).heap.size;rw[zei];exact hl,fun k hk=>?_⟩
  obtain⟨a',c',q1,q2,q3⟩:=hc k hk
  refine⟨a',c',?_,zsf q3 τ d⟩
  have q:=zfN (rowsOf w) w (O b (off+k))
  rw[q1,Option.map_some,zpq q2] at q
  exact q
theorem zms{cs:Lp}(h:Sp.zaf w a cs)(τ:Nat->Question->Nat)(d:Nat):Sp.zaf ((zhU (rowsOf w) w).tp τ d) a cs:=by
 rcases h with h|⟨b,off,rfl,hl,hc⟩
 ·exact .inl h
 ·refine .inr ⟨b,off,rfl,by show b<(zhU (rowsOf w) w).heap.size;rw[zei];exact hl,fun i hi=>?_⟩
  have one:∀ j (x:Int),w.cell? (O b j)=some (J x)->((zhU (rowsOf w) w).tp τ d).cell? (O b j)=some (J x):=fun j x h=>by
   have q:=zfN (rowsOf w) w (O b j)
   rw[h,Option.map_some,zlY] at q
   exact q
  exact⟨one _ _ (hc i hi).1,one _ _ (hc i hi).2⟩
def ScK(w:World)(g l f:Od)(cs:Lp)(ls:List Int)(fs:List (List Int)):Prop:=Sp.zaf w g cs/\Sp.zcA w l ls/\R2K w f fs
theorem zs4{g l f:Od}{cs:Lp}(h:ScK w g l f cs ls fs)(τ:Nat->Question->Nat)(d:Nat):Sp.ScM ((zhU (rowsOf w) w).tp τ d) g l f cs ls fs :=
 ⟨zms h.1 τ d,zsf h.2.1 τ d,ztN h.2.2 τ d⟩
theorem zfG{W:World}{base:Nat}{ad:Addr}(hk:Cell.okWide Tryz.prog W .any base u (.slice (some ad) n cap)):rowsOf W ad.block/\n<=cap:=by
 have hk':Cell.ok Tryz.prog W .any base u (.slice (some ad) n cap):=by
  revert hk
  unfold Cell.okWide
  cases Tryz.prog.underlying u with
  | none=>exact id
  | some d=>cases d <;> exact id
 unfold Cell.ok at hk'
 cases hu:Tryz.prog.underlying u with
 | none=>rw[hu] at hk';exact hk'.elim
 | some d =>
  rw[hu] at hk'
  cases d with
  | slice e =>
   obtain⟨hn,_,_,_,row,cells,hs,_⟩:=hk'
   refine⟨?_,hn⟩
   unfold World.shape? at hs
   cases hb:W.heap[ad.block]? with
   | none=>rw[hb] at hs;cases hs
   | some o =>
    rw[hb] at hs
    cases o with
    | cells c e f=>exact⟨c,e,f,hb⟩
    | _=>cases hs
  | _=>exact hk'.elim
theorem zcu{W:World}{base:Nat}(hk:Cell.okWide Tryz.prog W .any base u (.slice a n cap)):zaj (zcN (rowsOf W)) (.slice a n cap) (.slice a n cap):=by
 cases a with
 | none=>exact .nilSlice _ _
 | some ad=>exact .slice _ _ ⟨⟨rfl,(zfG hk).1⟩,rfl,rfl⟩
section
variable{H:Type}{enc:TypeId × Value->H}{W:World}{fuel:Nat}
theorem zmX{x:DataW H × List MemPlace}(h:DataW.trod enc Tryz.prog W 0 (fun _=>true) true fuel 25 vs=some x) :
  ∃ a cap xs,vs=[.slice a (List.length xs) cap]/\Sp.zcA W a xs/\xs.length<=9223372036854775807:=by
 rcases open_ints Tryz.underlying25 Tryz.underlying3 zcP h with ⟨rfl,_⟩|⟨x,len,cap,zs,rfl,_,hl,hm,hz,_,h2,_⟩
 ·exact⟨none,0,[],rfl,.inl rfl,qm⟩
 ·have h5:zs.length=cap:=by simpa using hz
  have h4:(zs.take len).length=len:=qn
  refine⟨some x,cap,zs.take len,by rw[h4],?_,by rw[h4];unfold maxLen at hm;omega⟩
  by_cases h0:len=0
  ·exact .inl (by rw[h0];simp)
  ·obtain⟨b,off,spot⟩:=x
   have hs:spot=none:=by simpa [Addr.add] using World.cell?_spot (h2 0 qg)
   subst hs
   have h3:∀ j,((O b off):Addr).add j=(O b (off+j)):=by intro j;unfold Addr.add;split <;> simp_all
   refine .inr ⟨b,off,rfl,?_,fun i hi=>?_⟩
   ·have h1:=h2 0 qg
    rw[h3] at h1
    exact World.block_lt_of_cell? W _ h1
   ·rw[h4] at hi
    have h1:=h2 i qg
    rw[h3] at h1
    rw[h1]
    simp[List.getD,hi]
theorem zln:Tryz.prog.cellsOf 25=1:=qh
theorem zmZ{x:DataW H × List MemPlace}(h:DataW.trod enc Tryz.prog W 0 (fun _=>true) true fuel 26 vs=some x) :
  ∃ a cap fs,vs=[.slice a (List.length fs) cap]/\R2K W a fs/\fs.length<=9223372036854775807/\∀ k,k<fs.length->(fs.getD k []).length<=9223372036854775807:=by
 rcases open_int_rows Tryz.underlying26 Tryz.underlying25 Tryz.underlying3 zln zcP h with ⟨rfl,_⟩|⟨a,len,cap,A,L,C,Z,rfl,_,hl,hm,_,hr⟩
 ·exact⟨none,0,[],rfl,.inl rfl,qm,fun k hk=>by simp at hk⟩
 ·have h2:((List.range len).map fun r=>(Z r).take (L r)).length=len:=qm
  have h5:∀ k,k<len->((List.range len).map fun r=>(Z r).take (L r)).getD k []=(Z k).take (L k):=fun k hk=>by simp[hk]
  have h4:∀ k,k<len->((Z k).take (L k)).length=L k:=fun k hk=>by
   obtain⟨_,q1,_,q3,_⟩:=hr k qg
   simp
   omega
  refine⟨some a,cap,(List.range len).map fun r=>(Z r).take (L r),by rw[h2],?_,by rw[h2];unfold maxLen at hm;omega,fun k hk=>?_⟩
  ·by_cases h0:len=0
   ·exact .inl (by rw[h0];simp)
   ·obtain⟨b,off,spot⟩:=a
    have hs:spot=none:=by simpa [Addr.add] using World.cell?_spot (hr 0 qg).1
    subst hs
    have h3:∀ j,((O b off):Addr).add j=(O b (off+j)):=by intro j;unfold Addr.add;split <;> simp_all
    refine .inr ⟨b,off,rfl,?_,fun k hk=>?_⟩
    ·have h1:=(hr 0 qg).1
     rw[h3] at h1
     exact World.block_lt_of_cell? W _ h1
    ·rw[h2] at hk
     obtain⟨q0,q1,q2,q3,_,q5,q6⟩:=hr k qg
     rw[h3] at q0
     rw[h5 k hk,h4 k hk]
     refine⟨A k,C k,q0,zm9 q1 fun x e hc=>?_,?_⟩
     ·have h1:=(q6 x e).2 0 hc
      have:=zpl h1
      unfold Addr.add at this
      split at this <;> exact this
     ·by_cases hL:L k=0
      ·exact .inl (by rw[hL];simp)
      ·cases hA:A k with
       | none=>have:=q5 hA;omega
       | some x =>
        have hc:=(q6 x hA).2
        obtain⟨b',off',spot'⟩:=x
        have hs':spot'=none:=by simpa [Addr.add] using World.cell?_spot (hc 0 qg)
        subst hs'
        have hadd':∀ j,((O b' off'):Addr).add j=(O b' (off'+j)):=by intro j;unfold Addr.add;split <;> simp_all
        refine .inr ⟨b',off',rfl,?_,fun i hi=>?_⟩
        ·have h1:=hc 0 qg
         rw[hadd'] at h1
         exact World.block_lt_of_cell? W _ h1
        ·rw[h4 k hk] at hi
         have h1:=hc i qg
         rw[hadd'] at h1
         rw[h1]
         simp[List.getD,hi]
  ·rw[h2] at hk
   rw[h5 k hk,h4 k hk]
   obtain⟨_,q1,q2,_⟩:=hr k qg
   unfold maxLen at q2
   omega
theorem zsC:Tryz.prog.cellsOf 28=4:=qh
theorem zn3:Tryz.prog.cellsOf 26=1:=qh
theorem zqp:Tryz.prog.cellsOf 22=1:=qh
theorem zik{x:DataW H × List MemPlace}(h:DataW.trod enc Tryz.prog W 0 (fun _=>true) true fuel 28 vs=some x) :
  ∃ (wd:Int) (g l f:Od) (gc lc fc:Nat) (cs:Lp) (ls:List Int) (fs:List (List Int)),vs=[J wd,.slice g cs.length gc,.slice l ls.length lc,.slice f fs.length fc]/\ScK W g l f cs ls fs/\Sp.Fits cs ls fs:=by
 obtain⟨y0,y1,y2,n,_,hl,h0,h1,h2⟩:=trod_struct3 Tryz.underlying28 h
 rw[zsC] at hl
 match vs,hl with
 | [c0,c1,c2,c3],_ =>
  simp only[zsB,zln,zn3,List.drop,List.take] at h0 h1 h2
  obtain⟨z0,z1,n2,_,_,k0,k1⟩:=trod_struct2 Tryz.underlying24 h0
  simp only[zcP,zqp,List.drop,List.take] at k0 k1
  obtain⟨wd,e0,_⟩:=DataW.trod_int Tryz.underlying3 k0
  obtain⟨g,gc,cs,e1,hc,hm⟩:=zgS k1
  obtain⟨l,lc,ls,e2,hr,h3⟩:=zmX h1
  obtain⟨f,fc,fs,e3,hf,h4,h5⟩:=zmZ h2
  simp only[List.cons.injEq,and_true] at e0 e1 e2 e3
  exact⟨wd,g,l,f,gc,lc,fc,cs,ls,fs,by rw[e0,e1,e2,e3],⟨hc,hr,hf⟩,hm,h3,h4,h5⟩
theorem zl2{cs:Array Value}(h:∀ i (hi:i<cs.size),zaj (zcN K) cs[i] cs[i]):zaj (zcN K) (.agg cs) (.agg cs):=.agg rfl fun i h1 _=>h i h1
theorem zmS{base:Nat}{d:DataW H}{p:List MemPlace}(hv:Value.okWide Tryz.prog W .any base 28 v)(h:DataW.Trod enc Tryz.prog W 0 (fun _=>true) true 28 v d p) :
  ∃ (wd:Int) (g l f:Od) (gc lc fc:Nat) (cs:Lp) (ls:List Int) (fs:List (List Int)),v=.agg (xH wd g cs.length gc l ls.length lc f fs.length fc)/\ScK W g l f cs ls fs/\Sp.Fits cs ls fs/\zaj (zcN (rowsOf W)) v v:=by
 unfold Value.okWide at hv
 rw[Tryz.underlying28] at hv
 obtain⟨ca,rfl,_,ts,_,_,hc⟩:=hv
 obtain⟨fuel,hf⟩:=h
 obtain⟨wd,g,l,f,gc,lc,fc,cs,ls,fs,e,h1,h2⟩:=zik hf
 have e2:ca=(xH wd g cs.length gc l ls.length lc f fs.length fc):=by
  have:ca.toList=[J wd,.slice g cs.length gc,.slice l ls.length lc,.slice f fs.length fc]:=e
  rw[<- Array.toArray_toList (xs:=ca),this]
 subst e2
 refine⟨wd,g,l,f,gc,lc,fc,cs,ls,fs,rfl,h1,h2,zl2 fun i hi=>?_⟩
 have h0:i<4:=hi
 have at':i=0\/i=1\/i=2\/i=3:=qg
 rcases at' with rfl|rfl|rfl|rfl
 ·exact .int _ _
 ·obtain⟨u,_,hk⟩:=hc 1 _ rfl
  exact zcu hk
 ·obtain⟨u,_,hk⟩:=hc 2 _ rfl
  exact zcu hk
 ·obtain⟨u,_,hk⟩:=hc 3 _ rfl
  exact zcu hk
end
end
section
open Go Go.Conc Go.ConcN Go.RowKit Go.Conc.Lib Go.ConcR.Gen Go.ConcN.Gen
open Go.ConcR (KK wgBlock WgAt stA smA rd wr mk Payload Aside2 DC0)
instance SqP.twin:zaF SqP.prog Tryz.prog:=Sq.okP.twin3
instance SqP.self:zaF SqP.prog SqP.prog:=Sq.okP.self
instance SqN.twin:zaF SqN.prog Tryz.prog:=Sq.okN.twin3
instance SqN.self:zaF SqN.prog SqN.prog:=Sq.okN.self
theorem SqP.whole:Whole SqP.prog:=Sq.okP.whole Sq.ckP
theorem SqN.whole:Whole SqN.prog:=Sq.okN.whole Sq.ckN
theorem SqP.bodies:Bodies SqP.prog Tryz.prog (fun i=>Sq.X i=true):=Sq.okP.bodies Sq.ckP
theorem SqN.bodies:Bodies SqN.prog Tryz.prog (fun _=>false=true):=Sq.okN.bodies Sq.ckN
def sF(W H:Nat)(i:Nat):Nat:=if i=0 then 0 else if i=1 then W else if i=2 then W+H else W+H+W
def sE(W H:Nat)(i:Nat):Nat:=if i=0 then W else if i=1 then W+H else if i=2 then W+H+W else W+H+W+H
theorem zpx(W H:Nat):Rng 4 (sF W H) (sE W H):=by
 intro i i' k h1 h2 h3 h4 h5 h6
 rcases (show i=0\/i=1\/i=2\/i=3 by omega) with rfl|rfl|rfl|rfl <;> rcases (show i'=0\/i'=1\/i'=2\/i'=3 by omega) with rfl|rfl|rfl|rfl <;> first
  | rfl
  | (exfalso;simp[sF,sE] at h3 h4 h5 h6;omega)
  | (exfalso;simp[sF,sE] at h3 h4 h6;omega)
  | (exfalso;simp[sF,sE] at h4 h5 h6;omega)
theorem zhh{P:Prop}(h:P:=by
  first
   | exact zpx W H
   | (refine hhas _ _ _ _ _ _ ?_ ?_ <;> first|omega|(simp[sF];done)|(simp[sF];omega)|fail)
   | omega
   | (simp[sF,sE];done)
   | (simp[sumTo,sF,sE];omega)
   | (intro j hj
      unfold sE
      split <;> try omega
      split <;> try omega
      split <;> omega)
   | (intro k hk
      by_cases h1:k<W
      · exact⟨0,qg,by simp[sF],by simp[sE];omega⟩
      · by_cases h2:k<W+H
        · exact⟨1,qg,by simp[sF];omega,by simp[sE];omega⟩
        · by_cases h3:k<W+H+W
          · exact⟨2,qg,by simp[sF];omega,by simp[sE];omega⟩
          · exact⟨3,qg,by simp[sF];omega,by simp[sE];omega⟩)
   | fail):P:=h
section
variable{Goal:Machine->Trace->Prop}{Shun:Np}{c:Frame}{cs:List Frame}
theorem zrm(hG:zbj Tryz.prog Goal){W H:Nat}{gs:Lp}{Kc:Np}(hok:Sp.okG (W:Int) gs=true)(hW:1<=W/\W<=5)(hH:1<=H/\H<=5)(el:gs.length=W * H)(hHd:gs.length / W=H)(hHI:(gs.length:Int) / (W:Int)=(H:Int))(hl0:∀ p∈l0,Kc p.1)(hcl:∀ w,Hp l0 w->Closed Kc w)(hKl:∀ c,Kc c->∃ p∈l0,p.1=c)(hga:zaj (zcN Kc) (.slice ga gs.length cap) (.slice ga gs.length cap))(hC:∀ w,Hp l0 w->∀ τ d,Sp.zaf (w.frz.tp τ d) ga gs)(w:World)(hp0:Hp l0 w)(hKc:∀ c,Kc c->c<w.heap.size/\¬ Shun c)(hfin:∀(u:World) (bo:Nat),zcp (fun e=>e<w.heap.size/\¬ Shun e) w u->w.heap.size<=bo->u.heap[bo]?=some (Sp.zfr (W:Int) gs (2 * (W+H)))->∀ Shun':Np,(∀ e,Shun' e->Shun e\/w.heap.size<=e)->¬ Shun' bo->zau Tryz.prog Goal Shun' (fun _=>False) (G (c.finish (.slice (xA bo) (2 * (W+H)) (2 * (W+H)))) cs) u) :
  zau Tryz.prog Goal Shun (fun _=>False) (G (Frame.enter Tryz.prog 84 #[.agg (xG (W:Int) ga gs.length cap),.func (.func 66) #[] #[]] .normal) (c::cs)) w:=by
 haveI:Payload:=⟨0⟩
 obtain⟨W1,W5⟩:=hW
 obtain⟨H1,H5⟩:=hH
 have hn25:gs.length<=25:=by rw[el];exact Nat.le_trans (Nat.mul_le_mul W5 H5) qg
 have hM:Sp.zbV (W:Int) gs=((2 * (W+H):Nat):Int):=by rw[Sp.zcQ hok hHI];omega
 have hside:Sp.zbS (W:Int) (H:Int) (gs.length:Int)=#[J ((sF W H 0:Nat):Int),J (W:Int),J 0,J 1,J 2,J 0,J ((sF W H 1:Nat):Int),J (H:Int),J ((W:Int) - 1),J (W:Int),J 3,J 1,J ((sF W H 2:Nat):Int),J (W:Int),J ((gs.length:Int) - 1),J (-1),J 0,J 2,J ((sF W H 3:Nat):Int),J (H:Int),J ((gs.length:Int) - 1 - (W:Int)+1),J (-(W:Int)),J 1,J 3]:=by
  simp[Sp.zbS,sF]
 have hhas:∀(f m s o i u:Int),0<=f/\f<=100->0<=m/\m<=100->∀(k:Nat) (w:World),Calls SqN.prog 115 #[.agg #[J f,J m,J s,J o,J i,J u],J k] w fun e _=>e=.returned (.bool (decide (f<=k/\(k:Int)<f+m))) :=
  fun f m s o i u h1 h2 k w=>(Sp.zeQ f m s o i u k h1 h2 _ rfl w).mono fun e w' h=>h.1
 refine R2.R1.zd0 (L:=SqN.prog) (X:=fun _=>false=true) (f0:=sF W H) (e0:=sE W H) (Post:=fun k _ v _=>v=J (Sp.zaU (W:Int) gs (k:Int))) (RowP:=fun k v bs=>v=J (Sp.zaU (W:Int) gs (k:Int))/\bs=[]) (many:=2 * (W+H)) hG SqN.whole SqN.bodies (fun _ h=>by cases h) (zfx func71) (fun h=>by cases h) (zfx func85) (fun h=>by cases h) (zfx func86) (fun h=>by cases h) hl0 hcl hga
  (fun w hp τ d=>((Sp.zar (W:Int) ga cap gs _ (hC w hp τ d) qg).mono fun e w' h=>by rw[h.1,hok]))
  (fun w hp τ d=>((Sp.zdf (W:Int) ga cap gs _ (hC w hp τ d) qg).mono fun e w' h=>by rw[h.1,hM]))
  (fun w hp τ d=>((Sp.zb8 W H ga gs.length cap _ ⟨W1,W5⟩ ⟨H1,H5⟩ hn25 hHd).mono fun e w' h=>by rw[h.1,hside]))
  (zfx func115) (fun h=>by cases h) (zfx func66) func66 rfl rfl (fun h=>by cases h) qh ?_ ?_ hKl ?_ ?_ ?_ ?_ ?_ ?_ ?_ ?_ ?_ ?_ ?_ ?_ ?_
  (fun k hk w hp τ d=>((Sp.zbT (W:Int) ga cap gs _ (hC w hp τ d) qg (k:Int)).mono fun e w' h=>⟨_,h.1,rfl⟩)) (fun _ _ _ _ _ _ h=>h) (fun k w0 v v' R wl w1 h hv _=>⟨[],⟨by subst h;exact zc0 hv,rfl⟩,(fun _ h=>by cases h),(fun _ h=>by cases h)⟩) (fun k x bs h=>⟨_,0,0,h.1⟩) ?_ qg w hp0 hKc (fun u bo xs bsf hk hlo hb hr _ Sh h1 h2 _=>hfin u bo hk hlo (hb.trans (congrArg (fun x=>some (Obj.cells x 3)) (congrArg Array.ofFn (funext fun k=>(hr k k.2).1.1)))) Sh h1 h2)
 all_goals exact zhh
end
theorem zlF{R:BR}{c:Array Value}(h:∀ i (h:i<c.size),∃ n,c[i]=J n):zay R c c:=⟨rfl,fun i h1 _=>by
 obtain⟨n,e⟩:=h i h1
 rw[e]
 exact .int _ _⟩
