/- Part. -/
import Derived.Control
import Derived.Test.YtefakaeblcafmaaGreatNAe
import Derived.Test.YtefakaeblcafmaaGreatNAq
set_option maxHeartbeats 2000000
set_option maxRecDepth 100000
set_option linter.unusedVariables false
namespace Go.Proofs.YtefakaeblcafmaaGreat
variable{a:Act}{Post:Act->World->Prop}{b fr fr1:Frame}{f:Func}{wd:Int}{gl:List (Int × Int)}{xs:List Int}{M cap i:Nat}{p:Nat->Func->Bool}{C:Nat->Nat}{z:Option (Array Value)}{ga:Option Addr}{v:Value}{w w' w1:World}
section
open Go Go.Conc Go.RowKit
theorem zg5{L:Program}{ty:TypeId}{o:Oper}{z:Operand}{r:Next}{p:Addr}{ob:Obj}(hop:o.op=.load ty z)(hz:a.eval z=.pointer (some p))(hag:(isAgg ty).run L w=.ok false w)(hb:w.heap[p.block]?=some ob)(hnv:∀ x y,ob≠.view x y)(h:(execOp a.eval o).run L w=.ok r w') :
  p.spot=none/\∃ c e f,w.heap[p.block]?=some (.cells c e f):=by
 unfold execOp at h
 simp only[hop,hz] at h
 rw[Sem.run_bind] at h
 cases hl:(Instr.loadAt ty (.pointer (some p))).run L w with
 | ok y w1 =>
  unfold Instr.loadAt loadVar at hl
  simp only[Instr.sureAddr,Sem.run_bind,Sem.run_pure,Result.andThen_ok,hag] at hl
  have hl':(load p).run L w=.ok y w1:=hl
  rw[_root_.Go.run_load] at hl'
  cases hc:w.cell? p with
  | some x =>
   obtain⟨c,e,f,h1,_,h2⟩:=zmJ hc
   exact⟨by simpa using h2,c,e,f,h1⟩
  | none =>
   exfalso
   rw[hc] at hl'
   unfold World.farLoad at hl'
   rw[hb] at hl'
   cases ob with
   | view x y=>exact hnv x y rfl
   | _=>cases hl'
 | halt q w1=>rw[hl] at h;cases h
theorem zqX[zk6]{f:FuncId}{FinP:Frame->World->Prop}{cs:List Frame}{rest:Code}{kk:List Item}(W:Whole Sq.prog){n m sz:Nat}(hn:n<=9223372036854775806)(hga:0<n->∀ ad,ga=some ad->∃ b off c e z,ad=⟨b,off,none⟩/\w1.heap[b]?=some (.cells c e z)) :
  ∀(r i:Nat),i+r=n->∀(u1 u3 u4 u5 u6 u10 u11 u12 u13 u14 u15 u16 u17 u18 u19 u20 u21:Value),zbS Sq.prog FinP ((base f).at ⟨#[v,u1,.pointer (some ⟨sz,0,none⟩),u3,u4,u5,u6,.slice ga n m,.int .i64 n,.int .i64 i,u10,u11,u12,u13,u14,u15,u16,u17,u18,u19,u20,u21],[]⟩ (.code ckL::.inLoop ckL::.inBlock 0::.code rest::kk)) cs w1 ->
   (∀ j,i<=j->j<n->∃ b off c e z x y,ga=some ⟨b,off,none⟩/\w1.heap[b]?=some (.cells c e z)/\c[off+j * 2]?=some (.int .i64 x)/\c[off+j * 2+1]?=some (.int .i64 y))/\∃ u1 u3 u4 u5 u6 u10 u11 u12 u13 u14 u15 u16 u17 u18 u19 u20 u21:Value,zbS Sq.prog FinP ((base f).at ⟨#[v,u1,.pointer (some ⟨sz,0,none⟩),u3,u4,u5,u6,.slice ga n m,.int .i64 n,.int .i64 n,u10,u11,u12,u13,u14,u15,u16,u17,u18,u19,u20,u21],[]⟩ (.code rest::kk)) cs w1:=by
 intro r
 induction r with
 | zero =>
  intro i hi u1 u3 u4 u5 u6 u10 u11 u12 u13 u14 u15 u16 u17 u18 u19 u20 u21 t
  obtain rfl:i=n:=qg
  unfold ckL at t
  simp only[opr] at t
  have t:=t.ctl fun _ _=>stepG_seq
  have t:=t.ctl fun _ _=>stepG_region
  simp only[rgs] at t
  have h1:¬ ((i:Int)<(i:Int)):=qg
  have t:=t.value (v:=.bool false) (w':=w1) rfl rfl (Go.ConcR.Gen.base_kind _) qo
  revert t;walk_nrm;intro t
  have t:=t.ctl fun _ _=>stepG_region_end
  have t:=t.ctl fun _ _=>stepG_seq
  have t:=t.ctl fun _ _=>stepG_cond (t:=false) rfl
  simp only[Bool.false_eq_true,↓reduceIte] at t
  have t:=t.ctl fun _ _=>stepG_exit rfl
  exact⟨fun j h1 h2=>qg,_,_,_,_,_,_,_,_,_,_,_,_,_,_,_,_,_,t⟩
 | succ r ih =>
  intro i hi u1 u3 u4 u5 u6 u10 u11 u12 u13 u14 u15 u16 u17 u18 u19 u20 u21 t
  unfold ckL at t
  simp only[opr] at t
  have t:=t.ctl fun _ _=>stepG_seq
  have t:=t.ctl fun _ _=>stepG_region
  simp only[rgs] at t
  have h1:(i:Int)<(n:Int):=qg
  have t:=t.value (v:=.bool true) (w':=w1) rfl rfl (Go.ConcR.Gen.base_kind _) qo
  revert t;walk_nrm;intro t
  have t:=t.ctl fun _ _=>stepG_region_end
  have t:=t.ctl fun _ _=>stepG_seq
  have t:=t.ctl fun _ _=>stepG_cond (t:=true) rfl
  simp only[↓reduceIte] at t
  have t:=t.ctl fun _ _=>stepG_skip
  have t:=t.ctl fun _ _=>stepG_region
  simp only[rgs,Nat.reduceAdd] at t
  obtain⟨x0,w2,hr⟩:=t.ran W rfl rfl
  rcases ga with _|ad
  ·exfalso
   unfold execOp at hr
   simp[Act.eval,Instr.indexAt,asIntOf,boundsPanic] at hr
   have hp:∀(e:RuntimeError) (u:World),∃ q u1,(runtimePanic e:Sem Value).run Sq.prog u=.halt q u1:=fun e u=>let ⟨q,u1,h,_⟩:=zan (P:=Sq.prog) (α:=Value) e u;⟨q,u1,h⟩
   split at hr
   ·split at hr
    ·obtain⟨q,u1,h⟩:=hp _ _;rw[h] at hr;cases hr
    ·obtain⟨q,u1,h⟩:=hp _ _;rw[h] at hr;cases hr
   ·obtain⟨q,u1,h⟩:=hp _ _;rw[h] at hr;cases hr
  clear hr x0 w2
  obtain⟨b,off,c,e,z,rfl,hb⟩:=hga qg ad rfl
  have h0:(0:Int)<=(i:Int):=qg
  have t:=t.value (v:=.pointer (some ⟨b,off+i * 2,none⟩)) (w':=w1) rfl rfl (Go.ConcR.Gen.base_kind _) qo
  revert t;walk_nrm;intro t
  have t:=t.value (v:=.pointer (some ⟨b,off+i * 2,none⟩)) (w':=w1) rfl rfl (Go.ConcR.Gen.base_kind _) qo
  revert t;walk_nrm;intro t
  obtain⟨x0,w2,hr⟩:=t.ran W rfl rfl
  obtain⟨c0,hc0⟩:=zdY (i:=off+i * 2) rfl rfl qk hb hr
  clear hr x0 w2
  have gc0:w1.cell? ⟨b,off+i * 2,none⟩=some c0:=(zcP hb).trans hc0
  have t:=t.value (v:=c0) (w':=w1) rfl rfl (Go.ConcR.Gen.base_kind _) qo
  revert t;walk_nrm;intro t
  obtain⟨x0,w2,hr⟩:=t.ran W rfl rfl
  obtain⟨x,hnum⟩:=zg6 rfl hr
  clear hr x0 w2
  simp only[Act.eval,Array.getD_eq_getD_getElem?,List.getElem?_toArray,List.getElem?_cons_succ,List.getElem?_cons_zero,Option.getD_some] at hnum
  subst hnum
  have t:=t.value (v:=.int .i64 0) (w':=w1) rfl rfl (Go.ConcR.Gen.base_kind _) (by (go_simp;decide))
  revert t;walk_nrm;intro t
  have t:=t.value (v:=.pointer (some ⟨b,off+i * 2+1,none⟩)) (w':=w1) rfl rfl (Go.ConcR.Gen.base_kind _) qo
  revert t;walk_nrm;intro t
  obtain⟨x0,w2,hr⟩:=t.ran W rfl rfl
  obtain⟨c1,hc1⟩:=zdY (i:=off+i * 2+1) rfl rfl qk hb hr
  clear hr x0 w2
  have gc1:w1.cell? ⟨b,off+i * 2+1,none⟩=some c1:=(zcP hb).trans hc1
  have t:=t.value (v:=c1) (w':=w1) rfl rfl (Go.ConcR.Gen.base_kind _) qo
  revert t;walk_nrm;intro t
  obtain⟨x0,w2,hr⟩:=t.ran W rfl rfl
  obtain⟨y,hnum⟩:=zg6 rfl hr
  clear hr x0 w2
  simp only[Act.eval,Array.getD_eq_getD_getElem?,List.getElem?_toArray,List.getElem?_cons_succ,List.getElem?_cons_zero,Option.getD_some] at hnum
  subst hnum
  have t:=t.value (v:=.int .i64 0) (w':=w1) rfl rfl (Go.ConcR.Gen.base_kind _) (by (go_simp;decide))
  revert t;walk_nrm;intro t
  have hw1:IntKind.i64.wrap ((i:Int)+1)=((i+1:Nat):Int):=by rw[IntKind.wrap_i64];omega
  have t:=t.value (v:=.int .i64 ((i+1:Nat):Int)) (w':=w1) rfl rfl (Go.ConcR.Gen.base_kind _) qo
  revert t;walk_nrm;intro t
  have t:=t.value (v:=.int .i64 ((i+1:Nat):Int)) (w':=w1) rfl rfl (Go.ConcR.Gen.base_kind _) qo
  revert t;walk_nrm;intro t
  have t:=t.ctl fun _ _=>stepG_region_end
  have t:=t.ctl fun _ _=>stepG_inLoop
  have hi1:i+1+r=n:=qg
  obtain⟨h3,h4⟩:=ih (i+1) hi1 _ _ _ _ _ _ _ _ _ _ _ _ _ _ _ _ _ t
  refine⟨fun j h5 h6=>?_,h4⟩
  by_cases q:j=i
  ·subst q
   exact⟨b,off,c,e,z,x,y,rfl,hb,hc0,hc1⟩
  ·exact h3 j qg h6
theorem zmL[zk6]{f:FuncId}{FinP:Frame->World->Prop}{v:Value}{cs:List Frame}{w:World}{rest:Code}{kk:List Item}(W:Whole Sq.prog)(hrel:∀ n m ad,v.cells[1]?=some (.slice (some ad) n m)->0<n->∃ o,w.heap[ad.block]?=some o/\∀ x y,o≠.view x y)(t:zbS Sq.prog FinP ((base f).at ⟨#[v,undef,undef,undef,undef,undef,undef,undef,undef,undef,undef,undef,undef,undef,undef,undef,undef,undef,undef,undef,undef,undef],[]⟩ (.code (zi7 rest)::kk)) cs w) :
  ∃ wd ga n m,v=.agg #[.int .i64 wd,.slice ga n m]/\n<4611686018427387904/\∀ j,j<n->∃ b off c e z x y,ga=some ⟨b,off,none⟩/\w.heap[b]?=some (.cells c e z)/\c[off+j * 2]?=some (.int .i64 x)/\c[off+j * 2+1]?=some (.int .i64 y):=by
 unfold zi7 ckA at t
 simp only[opr] at t
 have t:=t.ctl fun _ _=>stepG_seq
 have t:=t.ctl fun _ _=>stepG_region
 simp only[rgs,Nat.reduceAdd] at t
 have t:=t.value (v:=.pointer (some ⟨w.heap.size,0,none⟩)) (w':=w.alloc (.cells v.cells 25)) rfl rfl (Go.ConcR.Gen.base_kind _) (by unfold execOp;simp[Instr.box,newVar,newRow,Act.eval])
 revert t;walk_nrm;intro t
 have hb:=(zbo w (.cells v.cells 25)).1
 have hk1:∀ r,r<w.heap.size->(w.alloc (.cells v.cells 25)).heap[r]?=w.heap[r]?:=(zbo w (.cells v.cells 25)).2
 obtain⟨w1,hw1⟩:∃ w1,w1=w.alloc (.cells v.cells 25):=⟨_,rfl⟩
 rw[<- hw1] at t hb hk1
 clear hw1
 obtain⟨cc,hcc⟩:∃ cc,v.cells=cc:=⟨_,rfl⟩
 rw[hcc] at hb
 have t:=t.value (v:=.pointer (some ⟨w.heap.size,0,none⟩)) (w':=w1) rfl rfl (Go.ConcR.Gen.base_kind _) qo
 revert t;walk_nrm;intro t
 obtain⟨x0,w2,hr⟩:=t.ran W rfl rfl
 obtain⟨c0,hc0⟩:=zdY (i:=0) rfl rfl qk hb hr
 clear hr x0 w2
 have gc0:w1.cell? ⟨w.heap.size,0,none⟩=some c0:=(zcP hb).trans hc0
 have t:=t.value (v:=c0) (w':=w1) rfl rfl (Go.ConcR.Gen.base_kind _) qo
 revert t;walk_nrm;intro t
 obtain⟨x0,w2,hr⟩:=t.ran W rfl rfl
 obtain⟨wd,hnum⟩:=zg6 rfl hr
 clear hr x0 w2
 simp only[Act.eval,Array.getD_eq_getD_getElem?,List.getElem?_toArray,List.getElem?_cons_succ,List.getElem?_cons_zero,Option.getD_some] at hnum
 subst hnum
 have t:=t.value (v:=.int .i64 0) (w':=w1) rfl rfl (Go.ConcR.Gen.base_kind _) (by (go_simp;decide))
 revert t;walk_nrm;intro t
 have t:=t.value (v:=.pointer (some ⟨w.heap.size,1,none⟩)) (w':=w1) rfl rfl (Go.ConcR.Gen.base_kind _) qo
 revert t;walk_nrm;intro t
 obtain⟨x0,w2,hr⟩:=t.ran W rfl rfl
 obtain⟨c1,hc1⟩:=zdY (i:=1) rfl rfl qk hb hr
 clear hr x0 w2
 have gc1:w1.cell? ⟨w.heap.size,1,none⟩=some c1:=(zcP hb).trans hc1
 have t:=t.value (v:=c1) (w':=w1) rfl rfl (Go.ConcR.Gen.base_kind _) qo
 revert t;walk_nrm;intro t
 obtain⟨x0,w2,hr⟩:=t.ran W rfl rfl
 obtain⟨ga,n,m,hnum⟩:=zo1 (e:=60) rfl qk hr
 clear hr x0 w2
 simp only[Act.eval,Array.getD_eq_getD_getElem?,List.getElem?_toArray,List.getElem?_cons_succ,List.getElem?_cons_zero,Option.getD_some] at hnum
 subst hnum
 have t:=t.value (v:=.int .i64 n) (w':=w1) rfl rfl (Go.ConcR.Gen.base_kind _) qo
 revert t;walk_nrm;intro t
 have t:=t.value (v:=.int .i64 0) (w':=w1) rfl rfl (Go.ConcR.Gen.base_kind _) qo
 revert t;walk_nrm;intro t
 have t:=t.value (v:=.bool (decide ((n:Int)<4611686018427387904))) (w':=w1) rfl rfl (Go.ConcR.Gen.base_kind _) qo
 revert t;walk_nrm;intro t
 have t:=t.ctl fun _ _=>stepG_region_end
 have t:=t.ctl fun _ _=>stepG_seq
 obtain⟨q,hq,t⟩:=t.cond
 have hq2:decide ((n:Int)<4611686018427387904)=q:=by simpa [Act.eval] using hq
 cases q with
 | false=>exact(t.refuse).elim
 | true =>
  simp only[↓reduceIte] at t
  have t:=t.ctl fun _ _=>stepG_skip
  have t:=t.ctl fun _ _=>stepG_seq
  have t:=t.ctl fun _ _=>stepG_block
  have t:=t.ctl fun _ _=>stepG_loop
  have hga:0<n->∀ ad,ga=some ad->∃ o,w.heap[ad.block]?=some o/\∀ x y,o≠.view x y:=fun hn0 ad e=>by subst e;exact hrel n m ad (by rw[hcc];exact hc1) hn0
  have hgb:0<n->∀ ad,ga=some ad->∃ b off c e z,ad=⟨b,off,none⟩/\w1.heap[b]?=some (.cells c e z):=by
   intro hpos ad e
   subst e
   obtain⟨ob,hob,hnv⟩:=hga hpos ad rfl
   have hob1:w1.heap[ad.block]?=some ob:=(hk1 _ (gei hob).1).trans hob
   unfold ckL at t
   simp only[opr] at t
   have t:=t.ctl fun _ _=>stepG_seq
   have t:=t.ctl fun _ _=>stepG_region
   simp only[rgs] at t
   have h1:(0:Int)<(n:Int):=qg
   have t:=t.value (v:=.bool true) (w':=w1) rfl rfl (Go.ConcR.Gen.base_kind _) qo
   revert t;walk_nrm;intro t
   have t:=t.ctl fun _ _=>stepG_region_end
   have t:=t.ctl fun _ _=>stepG_seq
   have t:=t.ctl fun _ _=>stepG_cond (t:=true) rfl
   simp only[↓reduceIte] at t
   have t:=t.ctl fun _ _=>stepG_skip
   have t:=t.ctl fun _ _=>stepG_region
   simp only[rgs,Nat.reduceAdd] at t
   have hadd:ad.add (0 * 2)=ad:=by simp[Addr.add]
   have hadd2:ad.add 0=ad:=by simp[Addr.add]
   have t:=t.value (v:=.pointer (some ad)) (w':=w1) rfl rfl (Go.ConcR.Gen.base_kind _) (by (first|(go_simp;done)|(go_simp;simp[Addr.add];done)))
   revert t;walk_nrm;intro t
   have t:=t.value (v:=.pointer (some ad)) (w':=w1) rfl rfl (Go.ConcR.Gen.base_kind _) (by (first|(go_simp;done)|(go_simp;simp[Addr.add];done)))
   revert t;walk_nrm;intro t
   obtain⟨x0,w2,hr⟩:=t.ran W rfl rfl
   obtain⟨q1,c,e,z,q2⟩:=zg5 (p:=ad) rfl rfl qk hob1 hnv hr
   obtain⟨b,off,sp⟩:=ad
   simp only at q1 q2
   subst q1
   exact⟨b,off,c,e,z,rfl,q2⟩
  have hn:n<=9223372036854775806:=by have:=of_decide_eq_true hq2;omega
  obtain⟨h1,u1,u3,u4,u5,u6,u10,u11,u12,u13,u14,u15,u16,u17,u18,u19,u20,u21,t⟩:=zqX W hn hgb n 0 qg _ _ _ _ _ _ _ _ _ _ _ _ _ _ _ _ _ t
  unfold ckS at t
  simp only[opr] at t
  have t:=t.ctl fun _ _=>stepG_seq
  have t:=t.ctl fun _ _=>stepG_region
  simp only[rgs] at t
  obtain⟨x0,w2,hr⟩:=t.ran W rfl rfl
  have hsz:=zlj (q:=2) rfl qk ⟨_,rfl⟩ hr
  clear hr x0 w2
  replace hsz:v.cells.size=2:=hsz
  rw[hcc] at hsz
  refine⟨wd,ga,n,m,?_,by have:=of_decide_eq_true hq2;omega,fun j hj=>?_⟩
  ·have e:cc=#[.int .i64 wd,.slice ga n m]:=by
    refine Array.ext (by simpa using hsz) fun i h2 h3=>?_
    match i,h2 with
    | 0,h2=>rw[Array.getElem?_eq_getElem h2] at hc0;simpa using hc0
    | 1,h2=>rw[Array.getElem?_eq_getElem h2] at hc1;simpa using hc1
    | k+2,h2=>omega
   rw[e] at hcc
   cases v with
   | agg c=>exact congrArg Value.agg hcc
   | _=>exact absurd (congrArg Array.size hcc) (by simp[Value.cells])
  ·obtain⟨b,off,c,e,z,x,y,q1,q2,q3⟩:=h1 j (Nat.zero_le _) hj
   obtain⟨o,p1,p2⟩:=hga qg _ q1
   exact⟨b,off,c,e,z,x,y,q1,(hk1 b (gei p1).1) ▸ q2,q3⟩
end
section
open Go
theorem zrP(f:Func):Extern.findNext (zcH f)=none:=by
 have h:Extern.allNextRows.lookup "none"=none:=qh
 simp[Extern.findNext,zcH,h]
theorem zrO(f:Func):Extern.find (zcH f)=none:=by
 have h1:Extern.allGenericRows.lookup "none"=none:=qh
 have h2:Extern.allTypedRows.lookup "none"=none:=qh
 have h3:Extern.allRows.lookup "none"=none:=qh
 simp[Extern.find,zcH,h1,h2,h3]
theorem zjz{L:Program}(h:L.funcs[i]?=some (zcH f))(args:Array Value):zct L (callFunc i args):=by
 intro w
 have e1:¬ (zcH f).name= "runtime.NumGoroutine":=by show ¬ "none"= "runtime.NumGoroutine";decide
 have e2:((zcH f).name.endsWith ".init")=false:=by show ("none".endsWith ".init")=false;kernel_rfl
 have e3:(zcH f).body=none:=rfl
 have hh:∃ w',(callFunc i args).run L w=.halt (.unsupported (.extern "none")) w':=by
  unfold callFunc
  simp[h,e1,e2,e3,zrP,zrO,unsupported]
  rfl
 obtain⟨w',e⟩:=hh
 exact⟨_,w',e,.unsupported _⟩
section
variable{P:Program}{off:Nat->Bool}{alt:Nat->Func->Func}{X:Nat->Bool}
structure zcM(P:Program)(off:Nat->Bool)(alt:Nat->Func->Func)(X:Nat->Bool):Prop where
 globals:P.globals.size=0
 plain:∀(i:Nat) (f:Func),P.funcs[i]?=some f->off i=false->f.body.isSome=true/\(f.name == "runtime.NumGoroutine")=false
 inX:∀ i,X i=true->off i=true
 body:∀(i:Nat) (f:Func),P.funcs[i]?=some f->X i=true->f.body.isSome=true/\(f.name == "runtime.NumGoroutine")=false/\(alt i f).body.isSome=true/\((alt i f).name == "runtime.NumGoroutine")=false/\(alt i f).results=f.results
 none:∀(i:Nat) (f:Func),P.funcs[i]?=some f->off i=true->X i=false->alt i f=zcH f
theorem zdE{fn:Func}(h:(zau P off alt).funcs[i]?=some fn):∃ f,P.funcs[i]?=some f/\fn=if off i then alt i f else f:=by
 have h':(P.funcs.mapIdx fun i f=>if off i then alt i f else f)[i]?=some fn:=h
 rw[Array.getElem?_mapIdx] at h'
 cases e:P.funcs[i]? with
 | none=>rw[e] at h';cases h'
 | some f =>
  rw[e] at h'
  exact⟨f,rfl,by simpa using h'.symm⟩
theorem zcM.twin2(C:zcM P off alt X):zbv (zau P off alt) P:=by
 obtain⟨T,F⟩:=P
 exact { info:=fun t=>zp5 T _ _ t,und:=fun t=>zf9 T _ _ t,stood:=fun t=>zol T _ _ t,eqg:=fun d t=>zok T _ _ d t,depth:=ziN T _ _,globals:=C.globals,boc:=fun d e n=>zcf T _ _ d e n,cab:=fun d e c o n=>zrp T _ _ d e c o n }
theorem zcM.dead(C:zcM P off alt X){fn:Func}(h:(zau P off alt).funcs[i]?=some fn)(hb:fn.body.isSome=false)(args:Array Value):zct (zau P off alt) (callFunc i args):=by
 obtain⟨f,hf,e⟩:=zdE h
 cases ho:off i with
 | false =>
  rw[ho] at e
  have e':fn=f:=by simpa using e
  have:=(C.plain i f hf ho).1
  rw[<- e',hb] at this
  cases this
 | true =>
  rw[ho] at e
  have e':fn=alt i f:=by simpa using e
  cases hx:X i with
  | true =>
   have:=(C.body i f hf hx).2.2.1
   rw[<- e',hb] at this
   cases this
  | false =>
   rw[e',C.none i f hf ho hx] at h
   exact zjz h args
theorem zcM.fn(C:zcM P off alt X){i:Nat}{fn:Func}(h:(zau P off alt).funcs[i]?=some fn)(hb:fn.body.isSome=true):(fn.name == "runtime.NumGoroutine")=false/\∃ fn':Func,P.funcs[i]?=some fn'/\fn'.body.isSome=true/\(fn'.name == "runtime.NumGoroutine")=false:=by
 obtain⟨f,hf,e⟩:=zdE h
 cases ho:off i with
 | false =>
  rw[ho] at e
  have e':fn=f:=by simpa using e
  obtain⟨h1,h2⟩:=C.plain i f hf ho
  exact⟨by rw[e'];exact h2,f,hf,h1,h2⟩
 | true =>
  rw[ho] at e
  have e':fn=alt i f:=by simpa using e
  cases hx:X i with
  | true =>
   obtain⟨h1,h2,h3,h4,_⟩:=C.body i f hf hx
   exact⟨by rw[e'];exact h4,f,hf,h1,h2⟩
  | false =>
   rw[e',C.none i f hf ho hx] at hb
   cases hb
theorem zcM.twin3(C:zcM P off alt X):zaA (zau P off alt) P :=
 {C.twin2 with
  fn:=fun _ _ h hb=>C.fn h hb
  dead:=fun _ _ h hb args=>C.dead h hb args
  types:=rfl }
theorem zcM.self(C:zcM P off alt X):zaA (zau P off alt) (zau P off alt) :=
 {info:=fun _=>rfl,und:=fun _=>rfl,stood:=fun _=>rfl,eqg:=fun _ _=>rfl,depth:=rfl,globals:=C.globals,boc:=fun _ _ _=>rfl,cab:=fun _ _ _ _ _=>rfl
  fn:=fun _ fn h hb=>⟨(C.fn h hb).1,fn,h,hb,(C.fn h hb).1⟩
  dead:=fun _ _ h hb args=>C.dead h hb args
  types:=rfl }
structure zfb(P:Program)(off:Nat->Bool)(alt:Nat->Func->Func)(X:Nat->Bool):Prop where
 code:∀(i:Nat) (f:Func) (c:Code),P.funcs[i]?=some f->off i=false->f.body=some c->codeOk (zau P off alt) c=true
 acode:∀(i:Nat) (f:Func) (c:Code),P.funcs[i]?=some f->X i=true->(alt i f).body=some c->codeOk (zau P off alt) c=true
 early:∀ g,(zau P off alt).stepOf g=none
 ahead:P.follows .staticDataAhead=true
 zero:zbm P
theorem zcM.bodies(C:zcM P off alt X)(K:zfb P off alt X):Bodies (zau P off alt) P (fun i=>X i=true) where
 same:=by
  intro i fn h hb hx
  obtain⟨f,hf,e⟩:=zdE h
  cases ho:off i with
  | false =>
   rw[ho] at e
   have e':fn=f:=by simpa using e
   rw[e'];exact hf
  | true =>
   rw[ho] at e
   have e':fn=alt i f:=by simpa using e
   have hx':X i=false:=by simpa using hx
   rw[e',C.none i f hf ho hx'] at hb
   cases hb
 code:=by
  intro i fn c h hc hx
  obtain⟨f,hf,e⟩:=zdE h
  cases ho:off i with
  | false =>
   rw[ho] at e
   have e':fn=f:=by simpa using e
   exact K.code i f c hf ho (by rw[<- e'];exact hc)
  | true =>
   rw[ho] at e
   have e':fn=alt i f:=by simpa using e
   have hx':X i=false:=by simpa using hx
   rw[e',C.none i f hf ho hx'] at hc
   cases hc
 res:=by
  intro i fn fn' h h'
  obtain⟨f,hf,e⟩:=zdE h
  have e2:fn'=f:=by rw[hf] at h';exact(Option.some.inj h').symm
  rw[e2]
  cases ho:off i with
  | false =>
   rw[ho] at e
   have e':fn=f:=by simpa using e
   rw[e']
  | true =>
   rw[ho] at e
   have e':fn=alt i f:=by simpa using e
   cases hx:X i with
   | true=>rw[e',(C.body i f hf hx).2.2.2.2]
   | false=>rw[e',C.none i f hf ho hx];rfl
 early:=K.early
 ahead:=K.ahead
 mixed:=rfl
theorem zcM.whole(C:zcM P off alt X)(K:zfb P off alt X):Whole (zau P off alt) where
 same:=fun _ _ h _ _=>h
 code:=by
  intro i fn c h hc _
  obtain⟨f,hf,e⟩:=zdE h
  cases ho:off i with
  | false =>
   rw[ho] at e
   have e':fn=f:=by simpa using e
   exact K.code i f c hf ho (by rw[<- e'];exact hc)
  | true =>
   rw[ho] at e
   have e':fn=alt i f:=by simpa using e
   cases hx:X i with
   | true=>exact K.acode i f c hf hx (by rw[<- e'];exact hc)
   | false =>
    rw[e',C.none i f hf ho hx] at hc
    cases hc
 res:=by
  intro i fn fn' h h'
  rw[h] at h'
  rw[Option.some.inj h']
 early:=K.early
 ahead:=K.ahead
 mixed:=rfl
 zero:=K.zero
end
def zbu(c:Array Value):Prop:=∀ R:BR,zat R c c
def zg0(i:TypeInfo):Prop:=∀ v,i.zero=some v->Plain v
theorem zbu.nil:zbu #[]:=fun _=>zat.nil
theorem zbu.app{c d:Array Value}(h:zbu c)(h2:zbu d):zbu (c++d):=fun R=>(h R).app (h2 R)
theorem Plain.cells(h:Plain v):zbu v.cells:=fun R=>(h R).cells
theorem zbu.agg{c:Array Value}(h:zbu c):Plain (.agg c):=fun R=>.agg (h R).1 (h R).2
theorem zbu.many{c:Array Value}(h:zbu c)(n:Nat):zbu (Array.replicate n c).flatten:=by
 induction n with
 | zero=>simpa using zbu.nil
 | succ n ih =>
  rw[Array.replicate_succ]
  simp only[Array.flatten_push]
  exact ih.app h
theorem znw{α β:Type}(I:β->Prop){f:α->β->Option (ForInStep β)}(hf:∀ a b r,I b->f a b=some r->I r.value):∀(l:List α) (b b':β),I b->forIn l b f=some b'->I b'
 | [],b,b',h,e=>by
  rw[List.forIn_nil] at e
  cases e
  exact h
 | a::l,b,b',h,e=>by
  rw[List.forIn_cons] at e
  cases q:f a b with
  | none=>rw[q] at e;cases e
  | some r =>
   rw[q] at e
   have h1:=hf a b r h q
   cases r with
   | done d=>cases e;exact h1
   | yield d=>exact znw I hf l d b' h1 e
theorem zow(hz:∀ c,z=some c->zbu c){i:TypeInfo}(hi:zg0 i){p:Prop}[Decidable p]:∀ c,(if p then none else (z.bind fun x=>i.zero.bind fun y=>some (x++y.cells)))=some c->zbu c:=by
 intro c h
 split at h
 ·cases h
 ·obtain⟨x,hx,h⟩:=Option.bind_eq_some_iff.1 h
  obtain⟨y,hy,h⟩:=Option.bind_eq_some_iff.1 h
  cases h
  exact(hz x hx).app (hi y hy).cells
theorem zj5{info:TypeId->Option TypeInfo}(hi:∀ t i,info t=some i->zg0 i){fs:Array Field}{i:TypeInfo}(h:Made.reckonStruct info fs=some i):zg0 i:=by
 unfold Made.reckonStruct at h
 simp only[<- Array.forIn_toList] at h
 obtain⟨s,hs,h⟩:=Option.bind_eq_some_iff.1 h
 have hI:=znw (fun s=>∀ c,s.2.2.2.2.2.2.2.1=some c->zbu c) (by
  intro a b r hb e
  obtain⟨j,hj,e⟩:=Option.bind_eq_some_iff.1 e
  have h1:=hi _ _ hj
  split at e
  ·cases e
  split at e
  ·cases e
  split at e
  all_goals
   obtain⟨tag,htag,e⟩:=Option.bind_eq_some_iff.1 e
   clear htag
   generalize (if b.1.size+1<fs.size then ";" else "")=sep at e
   split at e
  all_goals
   have e':=Option.some.inj e
   subst e'
   exact zow hb h1) _ _ _ (fun c h=>by cases h;exact zbu.nil) hs
 intro v hv
 have fin:∀ c:Option (Array Value),c=s.2.2.2.2.2.2.2.1->c.map .agg=some v->Plain v:=by
  intro c hc e
  obtain⟨x,hx,e⟩:=Option.map_eq_some_iff.1 e
  rw[<- e]
  exact(hI x (by rw[<- hc];exact hx)).agg
 split at h
 all_goals
  have e:=Option.some.inj h
  subst e
  exact fin _ rfl hv
theorem zcs(d:TypeDesc)(s:String){z:Value}(hz:Plain z)(b:Bool)(n:Nat):zg0 (Made.word d s z b n):=by
 intro v hv
 cases hv
 exact hz
theorem zj4{info:TypeId->Option TypeInfo}(hi:∀ t i,info t=some i->zg0 i){d:TypeDesc}{i:TypeInfo}(h:Made.reckon info d=some i):zg0 i:=by
 unfold Made.reckon at h
 cases d with
 | pointer e =>
  obtain⟨j,hj,h⟩:=Option.bind_eq_some_iff.1 h
  simp only at h
  split at h
  ·cases h
  ·split at h
   ·cases h
   ·obtain⟨s,hs,h⟩:=Option.bind_eq_some_iff.1 h
    cases h
    exact zcs _ _ (fun _=>.nilPtr) _ _
  ·obtain⟨s,hs,h⟩:=Option.bind_eq_some_iff.1 h
   cases h
   exact zcs _ _ (fun _=>.nilPtr) _ _
 | slice e =>
  obtain⟨j,hj,h⟩:=Option.bind_eq_some_iff.1 h
  obtain⟨s,hs,h⟩:=Option.bind_eq_some_iff.1 h
  cases h
  exact zcs _ _ (fun _=>.nilSlice 0 0) _ _
 | map k e =>
  obtain⟨j,hj,h⟩:=Option.bind_eq_some_iff.1 h
  obtain⟨s,hs,h⟩:=Option.bind_eq_some_iff.1 h
  obtain⟨j2,hj2,h⟩:=Option.bind_eq_some_iff.1 h
  obtain⟨s2,hs2,h⟩:=Option.bind_eq_some_iff.1 h
  cases h
  exact zcs _ _ (fun _=>.nilMap) _ _
 | chan dir e =>
  obtain⟨j,hj,h⟩:=Option.bind_eq_some_iff.1 h
  obtain⟨s,hs,h⟩:=Option.bind_eq_some_iff.1 h
  cases h
  exact zcs _ _ (fun _=>.nilChan) _ _
 | func ps rs v =>
  obtain⟨s,hs,h⟩:=Option.bind_eq_some_iff.1 h
  cases h
  exact zcs _ _ (fun _=>.nilFunc) _ _
 | array n e =>
  obtain⟨j,hj,h⟩:=Option.bind_eq_some_iff.1 h
  obtain⟨s,hs,h⟩:=Option.bind_eq_some_iff.1 h
  have e:=Option.some.inj h
  subst e
  intro v hv
  have hv':(if n * j.size > Made.mostCells then none else if n * j.size=0 then some (.agg #[]) else j.zero.map fun z=>.agg ((Array.replicate n z.cells).flatten))=some v:=hv
  split at hv'
  ·cases hv'
  ·split at hv'
   ·cases hv';exact zbu.nil.agg
   ·obtain⟨z,hz,e⟩:=Option.map_eq_some_iff.1 hv'
    rw[<- e]
    exact((hi _ _ hj z hz).cells.many n).agg
 | struct fs=>exact zj5 hi h
 | _=>cases h
theorem zgh{T:Tables}(ht:∀ t i,t<T.types.size->T.types[t]?=some i->zg0 i):∀(n:Nat) (t:TypeId) (i:TypeInfo),Made.infoAt T n t=some i->zg0 i
 | 0,_,_,h=>by cases h
 | n+1,t,i,h=>by
  unfold Made.infoAt at h
  split at h
  ·rename_i h1;exact ht t i h1 h
  ·obtain⟨d,hd,h⟩:=Option.bind_eq_some_iff.1 h
   exact zj4 (zgh ht n) h
def zqm(i:TypeInfo):Bool:=match i.zero with|some v=>zbp 50 v|none=>true
theorem zru{P:Program}(h:(P.types.toList.all zqm)=true):zbm P:=by
 have ht:∀ t i,t<P.types.size->P.types[t]?=some i->zg0 i:=by
  intro t i h1 h2 v hv
  have hm:i∈P.types.toList:=by
   rw[Array.mem_toList_iff]
   exact Array.mem_of_getElem? h2
  have:=List.all_eq_true.1 h i hm
  simp only[zqm,hv] at this
  exact zee 50 v this
 intro t i v hi hv
 have hi':(if t<P.types.size then P.types[t]? else Made.infoAt P.toTables Made.depth t)=some i:=hi
 split at hi'
 ·rename_i h1;exact ht t i h1 hi' v hv
 ·exact zgh ht _ t i hi' v hv
section
variable{P:Program}
def zoA(P:Program)(p:Nat->Func->Bool):Bool:=(List.range P.funcs.size).all fun i=>match P.funcs[i]? with|some f=>p i f|none=>true
theorem zi0(h:zoA P p=true)(hf:P.funcs[i]?=some f):p i f=true:=by
 have hi:i<P.funcs.size:=by
  obtain⟨h1,_⟩:=gei hf
  exact h1
 have:=List.all_eq_true.1 h i (List.mem_range.2 hi)
 simpa [hf] using this
end
section
variable{P:Program}{off:Nat->Bool}{alt:Nat->Func->Func}{X:Nat->Bool}
def znI(off:Nat->Bool)(i:Nat)(f:Func):Bool:=off i || (f.body.isSome && !(f.name == "runtime.NumGoroutine"))
def readyB(f:Func):Bool:=match f.body with|some c=>(readies c).isEmpty|none=>true
theorem zoY(h:zoA P (fun i f=>readyB f && (!(off i) || readyB (alt i f)))=true)(g:Nat):(zau P off alt).stepOf g=none:=by
 unfold Program.stepOf
 rw[Array.findIdx?_eq_none_iff]
 intro fn hfn
 obtain⟨i,hi,e⟩:=Array.mem_iff_getElem.1 hfn
 have hg:(zau P off alt).funcs[i]?=some fn:=by rw[Array.getElem?_eq_getElem hi,e]
 obtain⟨f,hf,e2⟩:=zdE hg
 have h1:=zi0 h hf
 have h2:readyB fn=true:=by
  cases ho:off i with
  | false=>simp[ho] at e2;rw[e2];simp at h1;exact h1.1
  | true=>simp[ho] at e2;rw[e2];simp[ho] at h1;exact h1.2
 unfold readyB at h2
 cases hb:fn.body with
 | none=>simp
 | some c =>
  simp only[hb] at h2
  have h3:readies c=[]:=by simpa using h2
  simp[h3]
theorem zkf(hg:P.globals.size=0)(h1:zoA P (znI off)=true)(hX:∀ i,X i=true->off i=true)(hx:∀(i:Nat) (f:Func),P.funcs[i]?=some f->X i=true->f.body.isSome=true/\(f.name == "runtime.NumGoroutine")=false/\(alt i f).body.isSome=true/\((alt i f).name == "runtime.NumGoroutine")=false/\(alt i f).results=f.results)(hn:∀(i:Nat) (f:Func),off i=true->X i=false->alt i f=zcH f):zcM P off alt X where
 globals:=hg
 plain:=by
  intro i f hf ho
  have:=zi0 h1 hf
  simpa [znI,ho] using this
 inX:=hX
 body:=hx
 none:=fun i f _ ho hx=>hn i f ho hx
def zoQ(L:Program)(off:Nat->Bool)(i:Nat)(f:Func):Bool:=off i || (match f.body with|some c=>codeOk L c|none=>true)
theorem zgA(hc:zoA P (zoQ (zau P off alt) off)=true)(ha:∀(i:Nat) (f:Func) (c:Code),P.funcs[i]?=some f->X i=true->(alt i f).body=some c->codeOk (zau P off alt) c=true)(he:zoA P (fun i f=>readyB f && (!(off i) || readyB (alt i f)))=true)(hd:P.follows .staticDataAhead=true)(hz:(P.types.toList.all zqm)=true):zfb P off alt X where
 code:=by
  intro i f c hf ho hb
  have:=zi0 hc hf
  simpa [zoQ,ho,hb] using this
 acode:=ha
 early:=zoY he
 ahead:=hd
 zero:=zru hz
end
def Sq.X(i:Nat):Bool:=i == 22
theorem Sq.plain:zoA Tryz.prog (znI Sq.off)=true:=qh
theorem Sq.globals:Tryz.prog.globals.size=0:=qh
theorem Sq.ahead:Tryz.prog.follows .staticDataAhead=true:=qh
theorem Sq.zeros:Tryz.prog.types.toList.all zqm=true:=qh
theorem Sq.codeP:zoA Tryz.prog (zoQ (zau Tryz.prog Sq.off Sq.altP) Sq.off)=true:=qh
theorem Sq.codeN:zoA Tryz.prog (zoQ (zau Tryz.prog Sq.off Sq.altN) Sq.off)=true:=qh
theorem Sq.readyP:zoA Tryz.prog (fun i f=>readyB f && (!(Sq.off i) || readyB (Sq.altP i f)))=true:=qh
theorem Sq.readyN:zoA Tryz.prog (fun i f=>readyB f && (!(Sq.off i) || readyB (Sq.altN i f)))=true:=qh
theorem Sq.codeS:codeOk (zau Tryz.prog Sq.off Sq.altP) zqV=true:=qh
theorem Sq.one(i:Nat)(h:Sq.X i=true):i=22:=by simpa [Sq.X] using h
theorem Sq.okN:zcM Tryz.prog Sq.off Sq.altN (fun _=>false):=zkf Sq.globals Sq.plain (fun _ h=>by cases h) (fun _ _ _ h=>by cases h) (fun _ _ _ _=>rfl)
theorem Sq.okP:zcM Tryz.prog Sq.off Sq.altP Sq.X:=by
 refine zkf Sq.globals Sq.plain (fun i h=>?_) (fun i f hf h=>?_) (fun i f _ h=>?_)
 ·rcases Sq.one i h with rfl
  all_goals rfl
 ·rcases Sq.one i h with rfl
  ·have e:=Tryz.func22
   rw[hf] at e
   obtain rfl:=Option.some.inj e
   exact⟨rfl,rfl,rfl,rfl,rfl⟩
 ·have h':(i == 22)=false:=h
  simp only[Sq.altP,h',Bool.false_eq_true,↓reduceIte]
theorem Sq.ckN:zfb Tryz.prog Sq.off Sq.altN (fun _=>false):=zgA Sq.codeN (fun _ _ _ _ h=>by cases h) Sq.readyN Sq.ahead Sq.zeros
theorem Sq.ckP:zfb Tryz.prog Sq.off Sq.altP Sq.X:=zgA Sq.codeP (fun i f c _ h hb=>by
 rcases Sq.one i h with rfl
 ·have e:(Sq.altP 22 f).body=some zqV:=rfl
  rw[e] at hb
  obtain rfl:=Option.some.inj hb
  exact Sq.codeS) Sq.readyP Sq.ahead Sq.zeros
instance Sq.twinP:zaA (@Sq.prog Sq.P) Tryz.prog:=Sq.okP.twin3
instance Sq.selfP:zaA (@Sq.prog Sq.P) (@Sq.prog Sq.P):=Sq.okP.self
instance Sq.twinN:zaA (@Sq.prog Sq.N) Tryz.prog:=Sq.okN.twin3
instance Sq.selfN:zaA (@Sq.prog Sq.N) (@Sq.prog Sq.N):=Sq.okN.self
theorem Sq.wholeP:Whole (@Sq.prog Sq.P):=Sq.okP.whole Sq.ckP
end
section
open Go Go.Conc
section
variable{L:Program}{FinP:Frame->World->Prop}
theorem zch.of_tp{cs cs1:List Frame}{τ:Nat->Question->Nat}{d:Nat}(h:zch L fr cs (w.tp τ d) fr1 cs1 w1)(hne:fr≠fr1\/cs≠cs1):zch L fr cs w fr1 cs1 w1:=by
 cases h with
 | refl=>rcases hne with q|q <;> exact absurd rfl q
 | step τ' d' es e k=>exact .step τ' d' es e k
theorem zch.ctl{cs:List Frame}(h:∀ cs w,stepG L true (G fr cs) w=.go (G fr1 cs) w #[]):zch L fr cs w fr1 cs w :=
 .step w.tape w.drawn #[] (h (cs++[zaK L]) w) .refl
theorem zhH{c:Code}{k:List Item}{cs:List Frame}(t:zbS L FinP (b.at a (.code c::k)) cs w)(τ:Nat->Question->Nat)(d:Nat)(h:c.wp L (fun e a' w'=>e=.normal/\Post a' w') a (w.tp τ d)) :
  ∃ a' w',Post a' w'/\zch L (b.at a (.code c::k)) cs w (b.at a' k) cs w':=by
 obtain⟨e,a',w',⟨rfl,hp⟩,hs⟩:=h b k (cs++[zaK L])
 obtain⟨n,hn⟩:Steps L (lone (b.at a (.code c::k)) (cs++[zaK L]) (w.tp τ d)) (lone (b.at a' k) (cs++[zaK L]) w'):=hs
 refine⟨a',w',hp,(zbi n (t.tp τ d) hn).of_tp (.inl fun q=>?_)⟩
 have:(b.at a (.code c::k)).todo=(b.at a' k).todo:=by rw[q]
 have h2:(Item.code c::k)=k:=this
 exact absurd (congrArg List.length h2) qk
theorem zqa{c:Code}{k k':List Item}{id:Nat}{cs:List Frame}(t:zbS L FinP (b.at a (.code c::k)) cs w)(τ:Nat->Question->Nat)(d:Nat)(h:c.wp L (fun e a' w'=>e=.exit id/\Post a' w') a (w.tp τ d))(hk:exitTo id k=some k')(hl:k'.length<=k.length) :
  ∃ a' w',Post a' w'/\zch L (b.at a (.code c::k)) cs w (b.at a' k') cs w':=by
 obtain⟨e,a',w',⟨rfl,hp⟩,hs⟩:=h b k (cs++[zaK L])
 obtain⟨n,hn⟩:Steps L (lone (b.at a (.code c::k)) (cs++[zaK L]) (w.tp τ d)) (lone (b.at a' k') (cs++[zaK L]) w'):=hs k' hk
 refine⟨a',w',hp,(zbi n (t.tp τ d) hn).of_tp (.inl fun q=>?_)⟩
 have:(b.at a (.code c::k)).todo=(b.at a' k').todo:=by rw[q]
 have h2:(Item.code c::k)=k':=this
 have h3:=congrArg List.length h2
 simp at h3
 omega
theorem zp9{c:Code}{k:List Item}{c0:Frame}{cs:List Frame}{Post:Value->World->Prop}(t:zbS L FinP (b.at a (.code c::k)) (c0::cs) w)(h:c.wp L (fun e a' w'=>e=.ret/\∃ v,Post v w'/\∀ todo,({ b.at a' todo with mode:=.returning }:Frame).leaving L w' (.returned v)) a w) :
  ∃ v w',Post v w'/\zch L (b.at a (.code c::k)) (c0::cs) w (c0.finish v) cs w':=by
 obtain⟨e,a',w',⟨rfl,v,hp,hl⟩,todo,hs⟩:=h b k (c0::cs++[zaK L])
 obtain⟨n,hn⟩:Steps L (lone (b.at a (.code c::k)) (c0::cs++[zaK L]) w) (lone { b.at a' todo with mode:=.returning } (c0::cs++[zaK L]) w'):=hs
 have d1:=zbi (cs':=c0::cs) n t hn
 have t1:=t.desc d1
 have hst:step L (lone { b.at a' todo with mode:=.returning } (c0::(cs++[zaK L])) w')=.next (lone (c0.finish v) (cs++[zaK L]) w'):=step_leave_returned (hl todo)
 refine⟨v,w',hp,d1.trans (zbi 1 t1 ?_)⟩
 simp only[runN,List.cons_append,hst]
end
end
section
open Go Go.Conc Go.ConcN Go.RowKit
def zj6(w:World)(B:Nat)(x:Value)(xs:List Int)(C:Nat):Prop:=zdN w B 3 x xs/\(x=.slice none 0 0\/zbI x=C)
structure ScI(w0 w:World)(wd:Int)(gl:List (Int × Int))(M gc bl bf k:Nat)(C:Nat->Nat)(arrL arrF:Array Value)(xs:Nat->Value):Prop where
 below:Below w0.heap.size w0 (w.tp w0.tape w0.drawn)
 grid:Sp.Own w w0.heap.size (.slice (some ⟨gc,0,none⟩) gl.length gl.length) gl
 lights:w.heap[bl]?=some (.cells arrL 3)
 feet:w.heap[bf]?=some (.cells arrF 26)
 sizeL:arrL.size=M
 sizeF:arrF.size=M
 atL:∀ j,j<k->arrL[j]?=some (.int .i64 (Sp.za0 wd gl (j:Int)))
 atF:∀ j,j<k->arrF[j]?=some (xs j)
 lt:w0.heap.size<=gc/\gc<bl/\bl<bf
 row:∀ j,j<k->zj6 w w0.heap.size (xs j) (Sp.zar wd gl (j:Int)) (C j)
 apart:∀ j,j<k->∀ b,(xs j).ownBlock=some b->bf<b
 once:∀ j j' b,j<k->j'<k->(xs j).ownBlock=some b->(xs j').ownBlock=some b->j=j'
theorem zj6.keep{B:Nat}{x:Value}{C:Nat}(h:zj6 w B x xs C)(hk:∀ b,x.ownBlock=some b->w'.heap[b]?=w.heap[b]?):zj6 w' B x xs C:=by
 refine⟨?_,h.2⟩
 rcases h.1 with q|⟨g,cap,rfl,q2,q3,q4,q5,q6⟩
 ·exact .inl q
 ·exact .inr ⟨g,cap,rfl,q2,q3,q4,q5,(hk g rfl).trans q6⟩
section
variable{FinP:Frame->World->Prop}{c:Frame}{cs:List Frame}
theorem zri{w0:World}(hCl:Sp.zaf w0 ga gl)(hn:gl.length<=25)(hl:0<gl.length){gc bl bf:Nat}(hM:M<=20)(hC:∀ k,k<M->1<=C k/\C k<=maxLen/\(Sp.zar wd gl (k:Int)).length<=C k){kk:List Item} :
  ∀(r k:Nat),k+r=M->∀(w:World) (arrL arrF:Array Value) (xs:Nat->Value) (u1 u2 u3 u4 u5 u11 u12 u13 u14 u15 u16 u17 u18 u19 u20 u21:Value),ScI w0 w wd gl M gc bl bf k C arrL arrF xs ->
   zbS SqP.prog FinP ((base 22).at ⟨#[.agg #[.int .i64 wd,.slice ga gl.length cap],u1,u2,u3,u4,u5,.agg #[.int .i64 wd,.slice (some ⟨gc,0,none⟩) gl.length gl.length],.int .i64 (M:Int),.slice (some ⟨bl,0,none⟩) M M,.slice (some ⟨bf,0,none⟩) M M,.int .i64 ((k:Int)),u11,u12,u13,u14,u15,u16,u17,u18,u19,u20,u21],[]⟩ (.code scL::.inLoop scL::.inBlock 1::kk)) (c::cs) w ->
   ∃ (w':World) (arrL' arrF':Array Value) (xs':Nat->Value) (U1 U2 U3 U4 U5 U11 U12 U13 U14 U15 U16 U17 U18 U19 U20 U21:Value),ScI w0 w' wd gl M gc bl bf M C arrL' arrF' xs' /\
    zch SqP.prog ((base 22).at ⟨#[.agg #[.int .i64 wd,.slice ga gl.length cap],u1,u2,u3,u4,u5,.agg #[.int .i64 wd,.slice (some ⟨gc,0,none⟩) gl.length gl.length],.int .i64 (M:Int),.slice (some ⟨bl,0,none⟩) M M,.slice (some ⟨bf,0,none⟩) M M,.int .i64 ((k:Int)),u11,u12,u13,u14,u15,u16,u17,u18,u19,u20,u21],[]⟩ (.code scL::.inLoop scL::.inBlock 1::kk)) (c::cs) w ((base 22).at ⟨#[.agg #[.int .i64 wd,.slice ga gl.length cap],U1,U2,U3,U4,U5,.agg #[.int .i64 wd,.slice (some ⟨gc,0,none⟩) gl.length gl.length],.int .i64 (M:Int),.slice (some ⟨bl,0,none⟩) M M,.slice (some ⟨bf,0,none⟩) M M,.int .i64 ((M:Int)),U11,U12,U13,U14,U15,U16,U17,U18,U19,U20,U21],[]⟩ kk) (c::cs) w':=by
 intro r
 induction r with
 | zero =>
  intro k hk w arrL arrF xs u1 u2 u3 u4 u5 u11 u12 u13 u14 u15 u16 u17 u18 u19 u20 u21 hI t
  obtain rfl:k=M:=qg
  obtain⟨a',w',⟨⟨u11',rfl⟩,rfl⟩,hd⟩:=zqa (id:=1) (k':=kk) (Post:=fun a' w'=>(∃ u11,a'=⟨#[.agg #[.int .i64 wd,.slice ga gl.length cap],u1,u2,u3,u4,u5,.agg #[.int .i64 wd,.slice (some ⟨gc,0,none⟩) gl.length gl.length],.int .i64 (k:Int),.slice (some ⟨bl,0,none⟩) k k,.slice (some ⟨bf,0,none⟩) k k,.int .i64 ((k:Int)),u11,u12,u13,u14,u15,u16,u17,u18,u19,u20,u21],[]⟩)/\w'=w) t w.tape w.drawn (Sp.zrh wd ga cap gl _ k gc bl bf u1 u2 u3 u4 u5 u11 u12 u13 u14 u15 u16 u17 u18 u19 u20 u21 (fun u11=>⟨rfl,⟨u11,rfl⟩,rfl⟩)) rfl ql
  exact⟨_,arrL,arrF,xs,_,_,_,_,_,_,_,_,_,_,_,_,_,_,_,_,hI,hd⟩
 | succ r ih =>
  intro k hk w arrL arrF xs u1 u2 u3 u4 u5 u11 u12 u13 u14 u15 u16 u17 u18 u19 u20 u21 hI t
  have hkM:k<M:=qg
  obtain⟨h1,h2,h3⟩:=hC k hkM
  have hlt:=hI.lt
  have hbl:=(gei hI.lights).1
  have hbf:=(gei hI.feet).1
  have hz0:=hI.below.size
  have hca:∀ b off,ga=some ⟨b,off,none⟩->b≠bl/\b≠bf:=by
   intro b off e
   rcases hCl with q|⟨b',off',e',hbl',_⟩
   ·rw[q] at hl;simp at hl
   ·rw[e] at e'
    simp only[Option.some.injEq,Addr.mk.injEq] at e'
    have hz0':w0.heap.size<=w.heap.size:=hz0
    omega
  obtain⟨τ,hτ⟩:∃ τ:Nat->Question->Nat,τ=fun _ _=>C k - 1:=⟨_,rfl⟩
  have hT:Sp.ziZ (w.tp τ 0) (C k):=⟨fun i q=>by rw[show (w.tp τ 0).tape=τ from rfl,hτ],h1,h2⟩
  have hCw0:Sp.zaf (w.tp w0.tape w0.drawn) ga gl:=hCl.below hI.below
  have hCw:Sp.zaf (w.tp τ 0) ga gl:=hCw0
  obtain⟨a',w',⟨v,u11',u12',u13',u14',u15',rfl,hZ,hr,hL,hF,hfr,hsz,ho⟩,hd⟩:=zhH (Post:=fun a' w'=>∃ (v u11 u12 u13 u14 u15:Value),a'=⟨#[.agg #[.int .i64 wd,.slice ga gl.length cap],u1,u2,u3,u4,u5,.agg #[.int .i64 wd,.slice (some ⟨gc,0,none⟩) gl.length gl.length],.int .i64 (M:Int),.slice (some ⟨bl,0,none⟩) M M,.slice (some ⟨bf,0,none⟩) M M,.int .i64 ((k:Int)+1),u11,u12,u13,u14,u15,u16,u17,u18,u19,u20,u21],[]⟩/\zdN w' w.heap.size 3 v (Sp.zar wd gl (k:Int))/\(v=.slice none 0 0\/zbI v=C k)/\w'.heap[bl]?=some (.cells (arrL.setIfInBounds k (.int .i64 (Sp.za0 wd gl (k:Int)))) 3)/\w'.heap[bf]?=some (.cells (arrF.setIfInBounds k v) 26)/\(∀ b,b<w.heap.size->b≠bl->b≠bf->w'.heap[b]?=w.heap[b]?)/\w.heap.size<=w'.heap.size/\w'.os=w.os/\w'.output=w.output) t τ 0
   (Sp.zr1 wd ga cap gl (w.tp τ 0) hCw qg M k gc bl bf hkM hM arrL arrF hI.lights hI.feet hI.sizeL hI.sizeF qg hca (C k) hT h3 u1 u2 u3 u4 u5 u11 u12 u13 u14 u15 u16 u17 u18 u19 u20 u21 (fun v u11 u12 u13 u14 u15 w' q1 q2 q3 q4 q5 q6 q7=>⟨rfl,v,u11,u12,u13,u14,u15,rfl,q1,q2,q3,q4,q5,q6,q7.1,q7.2.2⟩))
  have hz0':w0.heap.size<=w.heap.size:=hz0
  have hrow:∀ j,j<k->∀ b,(xs j).ownBlock=some b->b<w.heap.size:=by
   intro j hj b hb
   rcases (hI.row j hj).1 with ⟨q,_⟩|⟨g,cp,q,_,_,_,_,q6⟩
   ·rw[q] at hb;simp[Value.ownBlock] at hb
   ·rw[q] at hb
    simp[Value.ownBlock] at hb
    subst hb
    exact(gei q6).1
  have hnew:∀ b,v.ownBlock=some b->w.heap.size<=b:=fun b hb=>(hZ.ownBlock b hb).1
  have hgc:=hI.grid.lt
  have hI':ScI w0 w' wd gl M gc bl bf (k+1) C (arrL.setIfInBounds k (.int .i64 (Sp.za0 wd gl (k:Int)))) (arrF.setIfInBounds k v) (fun j=>if j=k then v else xs j):=by
   refine⟨⟨ho.1.trans hI.below.os,rfl,ho.2.trans hI.below.output,Nat.le_trans hz0' hsz,fun b hb=>?_⟩,?_,hL,hF,by simpa using hI.sizeL,by simpa using hI.sizeF,fun j hj=>?_,fun j hj=>?_,hlt,fun j hj=>?_,fun j hj b hb=>?_,fun j j' b hj hj' hb hb'=>?_⟩
   ·exact(hfr b qg qg qg).trans (hI.below.block b hb)
   ·obtain⟨g1,g2⟩:=hI.grid
    refine⟨g1,?_⟩
    rcases g2 with g2|⟨g,cp,cur,q1,q2,q3,q4⟩
    ·exact .inl g2
    ·have e:gc=g:=by simp only[Value.slice.injEq,Option.some.injEq,Addr.mk.injEq] at q1;exact q1.1.1
     subst e
     exact .inr ⟨gc,cp,cur,q1,q2,(hfr gc qg qg qg).trans q3,q4⟩
   ·by_cases q:j=k
    ·subst q
     rw[Array.getElem?_setIfInBounds_self_of_lt (by rw[hI.sizeL];exact hkM)]
    ·rw[Array.getElem?_setIfInBounds_ne (Ne.symm q)]
     exact hI.atL j qg
   ·by_cases q:j=k
    ·subst q
     rw[Array.getElem?_setIfInBounds_self_of_lt (by rw[hI.sizeF];exact hkM),if_pos rfl]
    ·rw[Array.getElem?_setIfInBounds_ne (Ne.symm q),if_neg q]
     exact hI.atF j qg
   ·by_cases q:j=k
    ·subst q
     rw[if_pos rfl]
     exact⟨hZ.mono hz0',hr⟩
    ·rw[if_neg q]
     refine(hI.row j qg).keep (fun b hb=>hfr b (hrow j qg b hb) ?_ ?_)
     ·have:=hI.apart j qg b hb;omega
     ·have:=hI.apart j qg b hb;omega
   ·by_cases q:j=k
    ·rw[if_pos q] at hb
     have:=hnew b hb
     omega
    ·rw[if_neg q] at hb
     exact hI.apart j qg b hb
   ·by_cases q:j=k
    ·by_cases q':j'=k
     ·omega
     ·rw[if_pos q] at hb
      rw[if_neg q'] at hb'
      have:=hnew b hb
      have:=hrow j' qg b hb'
      omega
    ·by_cases q':j'=k
     ·rw[if_neg q] at hb
      rw[if_pos q'] at hb'
      have:=hnew b hb'
      have:=hrow j qg b hb
      omega
     ·rw[if_neg q] at hb
      rw[if_neg q'] at hb'
      exact hI.once j j' b qg qg hb hb'
  have d2:=hd.trans (zch.ctl (fun _ _=>stepG_inLoop))
  obtain⟨w2,aL,aF,xs2,x1,x2,x3,x4,x5,x11,x12,x13,x14,x15,x16,x17,x18,x19,x20,x21,hfin,hd2⟩:=ih (k+1) qg w' _ _ _ _ _ _ _ _ _ _ _ _ _ _ _ _ _ _ _ hI' (t.desc d2)
  exact⟨w2,aL,aF,xs2,x1,x2,x3,x4,x5,x11,x12,x13,x14,x15,x16,x17,x18,x19,x20,x21,hfin,d2.trans hd2⟩
end
end
section
open Go Go.Conc Go.ConcN Go.RowKit Go.ConcR.Gen
theorem zqv{w2:World}(h:Below w.heap.size w w1)(h2:Below w1.heap.size w1 w2):Below w.heap.size w w2:=⟨h2.os.trans h.os,h2.tape.trans h.tape,h2.output.trans h.output,Nat.le_trans h.size h2.size,fun k hk=>(h2.block k (nll hk h.size)).trans (h.block k hk)⟩
theorem zop(v:Value):#[v]++Array.replicate (22 - #[v].size) undef=#[v,undef,undef,undef,undef,undef,undef,undef,undef,undef,undef,undef,undef,undef,undef,undef,undef,undef,undef,undef,undef,undef]:=qh
section
variable{FinP:Frame->World->Prop}{c:Frame}{cs:List Frame}
theorem zr4{wl:World}(hCl:Sp.zaf wl ga gl)(hk:Sp.okG wd gl=true)(hn:gl.length<=25)(hl:0<gl.length)(hM:Sp.zbU wd gl=(M:Int))(hM20:M<=20)(hC:∀ k,k<M->1<=C k/\C k<=maxLen/\(Sp.zar wd gl (k:Int)).length<=C k)(tr:zbS SqP.prog FinP (Frame.enter SqP.prog 22 #[.agg #[.int .i64 wd,.slice ga gl.length cap]] .normal) (c::cs) wl) :
  ∃ (wl':World) (gc bl bf:Nat) (arrL arrF:Array Value) (xs:Nat->Value),ScI wl wl' wd gl M gc bl bf M C arrL arrF xs /\
   zch SqP.prog (Frame.enter SqP.prog 22 #[.agg #[.int .i64 wd,.slice ga gl.length cap]] .normal) (c::cs) wl (c.finish (.tuple #[.agg #[.int .i64 wd,.slice (some ⟨gc,0,none⟩) gl.length gl.length,.slice (some ⟨bl,0,none⟩) M M,.slice (some ⟨bf,0,none⟩) M M],.bool true])) cs wl':=by
 rw[enter_at _ SqP.func22 SqP.body22,SqP.ntmps22,zop] at tr ⊢
 have d0:zch SqP.prog ((base 22).at ⟨#[.agg #[.int .i64 wd,.slice ga gl.length cap],undef,undef,undef,undef,undef,undef,undef,undef,undef,undef,undef,undef,undef,undef,undef,undef,undef,undef,undef,undef,undef],[]⟩ [.code zqV]) (c::cs) wl ((base 22).at ⟨#[.agg #[.int .i64 wd,.slice ga gl.length cap],undef,undef,undef,undef,undef,undef,undef,undef,undef,undef,undef,undef,undef,undef,undef,undef,undef,undef,undef,undef,undef],[]⟩ [.code (zi7 .skip),.code zgK]) (c::cs) wl:=zch.ctl (fun _ _=>stepG_seq)
 have t0:=tr.desc d0
 obtain⟨a1,w1,⟨u1,u2,u3,u4,u5,u6,u7,u8,u9,u10,u11,u12,u13,u14,u15,u16,u17,u18,u19,u20,u21,rfl,hb1⟩,d1⟩:=zhH (Post:=fun a' w'=>∃ u1 u2 u3 u4 u5 u6 u7 u8 u9 u10 u11 u12 u13 u14 u15 u16 u17 u18 u19 u20 u21,a'=⟨#[.agg #[.int .i64 wd,.slice ga gl.length cap],u1,u2,u3,u4,u5,u6,u7,u8,u9,u10,u11,u12,u13,u14,u15,u16,u17,u18,u19,u20,u21],[]⟩/\Below wl.heap.size wl w') t0 wl.tape wl.drawn (Sp.zqW wd ga cap gl wl hCl qg (fun w' u1 u2 u3 u4 u5 u6 u7 u8 u9 u10 u11 u12 u13 u14 u15 u16 u17 u18 u19 u20 u21 hb=>wp_skip ⟨rfl,u1,u2,u3,u4,u5,u6,u7,u8,u9,u10,u11,u12,u13,u14,u15,u16,u17,u18,u19,u20,u21,rfl,hb⟩))
 have t1:=t0.desc d1
 have d2:zch SqP.prog ((base 22).at ⟨#[.agg #[.int .i64 wd,.slice ga gl.length cap],u1,u2,u3,u4,u5,u6,u7,u8,u9,u10,u11,u12,u13,u14,u15,u16,u17,u18,u19,u20,u21],[]⟩ [.code zgK]) (c::cs) w1 ((base 22).at ⟨#[.agg #[.int .i64 wd,.slice ga gl.length cap],u1,u2,u3,u4,u5,u6,u7,u8,u9,u10,u11,u12,u13,u14,u15,u16,u17,u18,u19,u20,u21],[]⟩ [.code scG,.code (.seq (.cond (.tmp 3) .skip scN) (.seq scA (.seq (.block 1 (.loop scL)) (.seq scZ .ret))))]) (c::cs) w1:=zch.ctl (fun _ _=>stepG_seq)
 have t2:=t1.desc d2
 have hC1:=hCl.below hb1
 obtain⟨a2,w2,⟨rfl,hb2⟩,d3⟩:=zhH (Post:=fun a' w'=>a'=⟨#[.agg #[.int .i64 wd,.slice ga gl.length cap],u1,u2,.bool true,u4,u5,u6,u7,u8,u9,u10,u11,u12,u13,u14,u15,u16,u17,u18,u19,u20,u21],[]⟩/\Below w1.heap.size w1 w') t2 w1.tape w1.drawn (Sp.zqF wd ga cap gl w1 hC1 qg hk u1 u2 u3 u4 u5 u6 u7 u8 u9 u10 u11 u12 u13 u14 u15 u16 u17 u18 u19 u20 u21 (fun w' hb=>⟨rfl,rfl,hb⟩))
 have t3:=t2.desc d3
 have hB2:=zqv hb1 hb2
 have hC2:=hCl.below hB2
 have d4:zch SqP.prog ((base 22).at ⟨#[.agg #[.int .i64 wd,.slice ga gl.length cap],u1,u2,.bool true,u4,u5,u6,u7,u8,u9,u10,u11,u12,u13,u14,u15,u16,u17,u18,u19,u20,u21],[]⟩ [.code (.seq (.cond (.tmp 3) .skip scN) (.seq scA (.seq (.block 1 (.loop scL)) (.seq scZ .ret))))]) (c::cs) w2 ((base 22).at ⟨#[.agg #[.int .i64 wd,.slice ga gl.length cap],u1,u2,.bool true,u4,u5,u6,u7,u8,u9,u10,u11,u12,u13,u14,u15,u16,u17,u18,u19,u20,u21],[]⟩ [.code scA,.code (.seq (.block 1 (.loop scL)) (.seq scZ .ret))]) (c::cs) w2:=by
  refine(zch.ctl (fun _ _=>stepG_seq)).trans ((zch.ctl (fr1:=(base 22).at ⟨#[.agg #[.int .i64 wd,.slice ga gl.length cap],u1,u2,.bool true,u4,u5,u6,u7,u8,u9,u10,u11,u12,u13,u14,u15,u16,u17,u18,u19,u20,u21],[]⟩ [.code .skip,.code (.seq scA (.seq (.block 1 (.loop scL)) (.seq scZ .ret)))]) (fun _ _=>stepG_cond (t:=true) rfl)).trans ((zch.ctl (fun _ _=>stepG_skip)).trans (zch.ctl (fun _ _=>stepG_seq))))
 have t4:=t3.desc d4
 obtain⟨a3,w3,⟨gc,bl,bf,rfl,hO,hL,hF,h1,h2,h3,hb3⟩,d5⟩:=zhH (Post:=fun a' w'=>∃ gc bl bf,a'=⟨#[.agg #[.int .i64 wd,.slice ga gl.length cap],u1,u2,.bool true,u4,u5,.agg #[.int .i64 wd,.slice (some ⟨gc,0,none⟩) gl.length gl.length],.int .i64 (M:Int),.slice (some ⟨bl,0,none⟩) M M,.slice (some ⟨bf,0,none⟩) M M,.int .i64 (0),u11,u12,u13,u14,u15,u16,u17,u18,u19,u20,u21],[]⟩/\Sp.Own w' w2.heap.size (.slice (some ⟨gc,0,none⟩) gl.length gl.length) gl/\w'.heap[bl]?=some (.cells (madeCells #[.int .i64 0] M) 3)/\w'.heap[bf]?=some (.cells (madeCells #[.slice none 0 0] M) 26)/\w2.heap.size<=gc/\gc<bl/\bl<bf/\Below w2.heap.size w2 w') t4 w2.tape w2.drawn (Sp.zqE wd ga cap gl w2 hC2 qg hl M hM hM20 u1 u2 (.bool true) u4 u5 u6 u7 u8 u9 u10 u11 u12 u13 u14 u15 u16 u17 u18 u19 u20 u21 (fun gc bl bf w' q1 q2 q3 q4 q5 q6 q7=>⟨rfl,gc,bl,bf,rfl,q1,q2,q3,q4,q5,q6,q7⟩))
 have t5:=t4.desc d5
 have hz2:=hB2.size
 have hB3:=zqv hB2 hb3
 have d6:zch SqP.prog ((base 22).at ⟨#[.agg #[.int .i64 wd,.slice ga gl.length cap],u1,u2,.bool true,u4,u5,.agg #[.int .i64 wd,.slice (some ⟨gc,0,none⟩) gl.length gl.length],.int .i64 (M:Int),.slice (some ⟨bl,0,none⟩) M M,.slice (some ⟨bf,0,none⟩) M M,.int .i64 (0),u11,u12,u13,u14,u15,u16,u17,u18,u19,u20,u21],[]⟩ [.code (.seq (.block 1 (.loop scL)) (.seq scZ .ret))]) (c::cs) w3 ((base 22).at ⟨#[.agg #[.int .i64 wd,.slice ga gl.length cap],u1,u2,.bool true,u4,u5,.agg #[.int .i64 wd,.slice (some ⟨gc,0,none⟩) gl.length gl.length],.int .i64 (M:Int),.slice (some ⟨bl,0,none⟩) M M,.slice (some ⟨bf,0,none⟩) M M,.int .i64 (((0:Nat):Int)),u11,u12,u13,u14,u15,u16,u17,u18,u19,u20,u21],[]⟩ (.code scL::.inLoop scL::.inBlock 1::[.code (.seq scZ .ret)])) (c::cs) w3 :=
  (zch.ctl (fun _ _=>stepG_seq)).trans ((zch.ctl (fun _ _=>stepG_block)).trans (zch.ctl (fun _ _=>stepG_loop)))
 have t6:=t5.desc d6
 have hI:ScI wl w3 wd gl M gc bl bf 0 C (madeCells #[.int .i64 0] M) (madeCells #[.slice none 0 0] M) (fun _=>.slice none 0 0):=⟨⟨hB3.os,rfl,hB3.output,hB3.size,hB3.block⟩,hO.mono qg,hL,hF,by simp[madeCells],by simp[madeCells],fun j hj=>qg,fun j hj=>qg,⟨qg,h2,h3⟩,fun j hj=>qg,fun j hj=>qg,fun j j' b hj=>qg⟩
 obtain⟨w4,aL,aF,xs,x1,x2,x3,x4,x5,x11,x12,x13,x14,x15,x16,x17,x18,x19,x20,x21,hI4,d7⟩:=zri hCl hn hl hM20 hC M 0 qg w3 _ _ _ _ _ _ _ _ _ _ _ _ _ _ _ _ _ _ _ hI t6
 have t7:=t6.desc d7
 obtain⟨v,w5,⟨rfl,hb5⟩,d8⟩:=zp9 (Post:=fun v w'=>v=.tuple #[.agg #[.int .i64 wd,.slice (some ⟨gc,0,none⟩) gl.length gl.length,.slice (some ⟨bl,0,none⟩) M M,.slice (some ⟨bf,0,none⟩) M M],.bool true]/\Below w4.heap.size w4 w') t7 (Sp.zr3 wd ga cap gl w4 M gc bl bf x1 x2 x3 x4 x5 x11 x12 x13 x14 x15 x16 x17 x18 x19 x20 x21 (fun a' w' q1 q2 q3=>⟨rfl,_,⟨rfl,q2⟩,fun todo=>⟨rfl,q1,rfl,_,SqP.func22,q3⟩⟩))
 refine⟨w5,gc,bl,bf,aL,aF,xs,?_,((((((d0.trans d1).trans d2).trans d3).trans d4).trans d5).trans d6).trans (d7.trans d8)⟩
 have hz5:=hb5.size
 have hkeep:∀ b o,w4.heap[b]?=some o->w5.heap[b]?=some o:=fun b o q=>(hb5.block b (gei q).1).trans q
 have hz4:wl.heap.size<=w4.heap.size:=hI4.below.size
 refine⟨⟨hb5.os.trans hI4.below.os,rfl,hb5.output.trans hI4.below.output,Nat.le_trans hz4 hz5,fun b hb=>(hb5.block b qg).trans (hI4.below.block b hb)⟩,hI4.grid.below hb5,hkeep _ _ hI4.lights,hkeep _ _ hI4.feet,hI4.sizeL,hI4.sizeF,hI4.atL,hI4.atF,hI4.lt,fun j hj=>(hI4.row j hj).keep (fun b hb=>?_),hI4.apart,hI4.once⟩
 rcases (hI4.row j hj).1 with ⟨q,_⟩|⟨g,cp,q,_,_,_,_,q6⟩
 ·rw[q] at hb;simp[Value.ownBlock] at hb
 ·rw[q] at hb
  simp[Value.ownBlock] at hb
  subst hb
  exact hb5.block g (gei q6).1
