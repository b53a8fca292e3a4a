/- Part. -/
import Derived.WalkKit
import Derived.WalkLawsBesides
import Derived.Test.YthfhlgdeghnggaaGreatTAe
import Derived.Test.YthfhlgdeghnggaaGreatTAj
set_option maxHeartbeats 800000
namespace Go.Proofs.YthfhlgdeghnggaaGreat
variable{c:Array Value}{FinP:Frame->World->Prop}{f:Func}{cs:List Frame}{i:Nat}{p:Nat->Func->Bool}{z:Option (Array Value)}{ga:Option Addr}{L:Program}{v:Value}
section
open Go Go.Conc Go.RowKit
theorem zho{ty:TypeId}{w w':World}{o:Oper}{a:Act}{z:Operand}{r:Next}{p:Addr}{ob:Obj}(hop:o.op=.load ty z)(hz:a.eval z=.pointer (some p))(hag:(isAgg ty).run L w=.ok false w)(hb:w.heap[p.block]?=some ob)(hnv:∀ x y,ob≠.view x y)(h:(execOp a.eval o).run L w=.ok r w') :
  p.spot=none/\∃ c e f,w.heap[p.block]?=some (.cells c e f):=by
 unfold execOp at h
 simp only[hop,hz] at h
 rw[Sem.run_bind] at h
 cases hl:(Instr.loadAt ty (.pointer (some p))).run L w with
 | ok y w1 =>
  unfold Instr.loadAt loadVar at hl
  simp only[Instr.sureAddr,Sem.run_bind,Sem.run_pure,Result.andThen_ok,hag] at hl
  have hl':(load p).run L w=.ok y w1:=hl
  rw[_root_.Go.run_load] at hl'
  cases hc:w.cell? p with
  | some x =>
   obtain⟨c,e,f,h1,_,h2⟩:=zm6 hc
   exact⟨by simpa using h2,c,e,f,h1⟩
  | none =>
   exfalso
   rw[hc] at hl'
   unfold World.farLoad at hl'
   rw[hb] at hl'
   cases ob with
   | view x y=>exact hnv x y rfl
   | _=>cases hl'
 | halt q w1=>rw[hl] at h;cases h
set_option maxRecDepth 100000 in
theorem zrt[zls]{f:FuncId}{w1:World}{rest:Code}{kk:List Item}(W:Whole Sq.prog){n m sz:Nat}(hn:n<=9223372036854775806)(hga:0<n->∀ ad,ga=some ad->∃ b off c e z,ad=⟨b,off,none⟩/\w1.heap[b]?=some (.cells c e z)) :
  ∀(r i:Nat),i+r=n->∀(u1 u3 u4 u5 u6 u10 u11 u12 u13 u14 u15 u16 u17 u18 u19 u20 u21:Value),zbY Sq.prog FinP ((base f).at ⟨#[v,u1,.pointer (some ⟨sz,0,none⟩),u3,u4,u5,u6,.slice ga n m,.int .i64 n,.int .i64 i,u10,u11,u12,u13,u14,u15,u16,u17,u18,u19,u20,u21],[]⟩ (.code ckL::.inLoop ckL::.inBlock 0::.code rest::kk)) cs w1 ->
   (∀ j,i<=j->j<n->∃ b off c e z x y,ga=some ⟨b,off,none⟩/\w1.heap[b]?=some (.cells c e z)/\c[off+j * 2]?=some (.int .i64 x)/\c[off+j * 2+1]?=some (.int .i64 y))/\∃ u1 u3 u4 u5 u6 u10 u11 u12 u13 u14 u15 u16 u17 u18 u19 u20 u21:Value,zbY Sq.prog FinP ((base f).at ⟨#[v,u1,.pointer (some ⟨sz,0,none⟩),u3,u4,u5,u6,.slice ga n m,.int .i64 n,.int .i64 n,u10,u11,u12,u13,u14,u15,u16,u17,u18,u19,u20,u21],[]⟩ (.code rest::kk)) cs w1:=by
 intro r
 induction r with
 | zero =>
  intro i hi u1 u3 u4 u5 u6 u10 u11 u12 u13 u14 u15 u16 u17 u18 u19 u20 u21 t
  obtain rfl:i=n:=by omega
  unfold ckL at t
  simp only[opr] at t
  have t:=t.ctl fun _ _=>stepG_seq
  have t:=t.ctl fun _ _=>stepG_region
  simp only[List.size_toArray,List.length_cons,List.length_nil,Nat.zero_add,List.range,List.range.loop] at t
  have h1:¬ ((i:Int)<(i:Int)):=by omega
  have t:=t.value (v:=.bool false) (w':=w1) rfl rfl (Go.ConcR.Gen.base_kind _) (by go_simp)
  revert t;walk_nrm;intro t
  have t:=t.ctl fun _ _=>stepG_region_end
  have t:=t.ctl fun _ _=>stepG_seq
  have t:=t.ctl fun _ _=>stepG_cond (t:=false) rfl
  simp only[Bool.false_eq_true,↓reduceIte] at t
  have t:=t.ctl fun _ _=>stepG_exit rfl
  exact⟨fun j h1 h2=>by omega,_,_,_,_,_,_,_,_,_,_,_,_,_,_,_,_,_,t⟩
 | succ r ih =>
  intro i hi u1 u3 u4 u5 u6 u10 u11 u12 u13 u14 u15 u16 u17 u18 u19 u20 u21 t
  unfold ckL at t
  simp only[opr] at t
  have t:=t.ctl fun _ _=>stepG_seq
  have t:=t.ctl fun _ _=>stepG_region
  simp only[List.size_toArray,List.length_cons,List.length_nil,Nat.zero_add,List.range,List.range.loop] at t
  have h1:(i:Int)<(n:Int):=by omega
  have t:=t.value (v:=.bool true) (w':=w1) rfl rfl (Go.ConcR.Gen.base_kind _) (by go_simp)
  revert t;walk_nrm;intro t
  have t:=t.ctl fun _ _=>stepG_region_end
  have t:=t.ctl fun _ _=>stepG_seq
  have t:=t.ctl fun _ _=>stepG_cond (t:=true) rfl
  simp only[↓reduceIte] at t
  have t:=t.ctl fun _ _=>stepG_skip
  have t:=t.ctl fun _ _=>stepG_region
  simp only[List.size_toArray,List.length_cons,List.length_nil,Nat.reduceAdd,Nat.zero_add,List.range,List.range.loop] at t
  obtain⟨x0,w2,hr⟩:=t.ran W rfl rfl
  rcases ga with _|ad
  ·exfalso
   unfold execOp at hr
   simp[Act.eval,Instr.indexAt,asIntOf,boundsPanic] at hr
   have hp:∀(e:RuntimeError) (u:World),∃ q u1,(runtimePanic e:Sem Value).run Sq.prog u=.halt q u1:=fun e u=>let ⟨q,u1,h,_⟩:=zaq (P:=Sq.prog) (α:=Value) e u;⟨q,u1,h⟩
   split at hr
   ·split at hr
    ·obtain⟨q,u1,h⟩:=hp _ _;rw[h] at hr;cases hr
    ·obtain⟨q,u1,h⟩:=hp _ _;rw[h] at hr;cases hr
   ·obtain⟨q,u1,h⟩:=hp _ _;rw[h] at hr;cases hr
  clear hr x0 w2
  obtain⟨b,off,c,e,z,rfl,hb⟩:=hga (by omega) ad rfl
  have h0:(0:Int)<=(i:Int):=by omega
  have t:=t.value (v:=.pointer (some ⟨b,off+i * 2,none⟩)) (w':=w1) rfl rfl (Go.ConcR.Gen.base_kind _) (by go_simp)
  revert t;walk_nrm;intro t
  have t:=t.value (v:=.pointer (some ⟨b,off+i * 2,none⟩)) (w':=w1) rfl rfl (Go.ConcR.Gen.base_kind _) (by go_simp)
  revert t;walk_nrm;intro t
  obtain⟨x0,w2,hr⟩:=t.ran W rfl rfl
  obtain⟨c0,hc0⟩:=zdW (i:=off+i * 2) rfl rfl (by simp) hb hr
  clear hr x0 w2
  have gc0:w1.cell? ⟨b,off+i * 2,none⟩=some c0:=(zcU hb).trans hc0
  have t:=t.value (v:=c0) (w':=w1) rfl rfl (Go.ConcR.Gen.base_kind _) (by go_simp)
  revert t;walk_nrm;intro t
  obtain⟨x0,w2,hr⟩:=t.ran W rfl rfl
  obtain⟨x,hnum⟩:=zhp rfl hr
  clear hr x0 w2
  simp only[Act.eval,Array.getD_eq_getD_getElem?,List.getElem?_toArray,List.getElem?_cons_succ,List.getElem?_cons_zero,Option.getD_some] at hnum
  subst hnum
  have t:=t.value (v:=.int .i64 0) (w':=w1) rfl rfl (Go.ConcR.Gen.base_kind _) (by (go_simp;decide))
  revert t;walk_nrm;intro t
  have t:=t.value (v:=.pointer (some ⟨b,off+i * 2+1,none⟩)) (w':=w1) rfl rfl (Go.ConcR.Gen.base_kind _) (by go_simp)
  revert t;walk_nrm;intro t
  obtain⟨x0,w2,hr⟩:=t.ran W rfl rfl
  obtain⟨c1,hc1⟩:=zdW (i:=off+i * 2+1) rfl rfl (by simp) hb hr
  clear hr x0 w2
  have gc1:w1.cell? ⟨b,off+i * 2+1,none⟩=some c1:=(zcU hb).trans hc1
  have t:=t.value (v:=c1) (w':=w1) rfl rfl (Go.ConcR.Gen.base_kind _) (by go_simp)
  revert t;walk_nrm;intro t
  obtain⟨x0,w2,hr⟩:=t.ran W rfl rfl
  obtain⟨y,hnum⟩:=zhp rfl hr
  clear hr x0 w2
  simp only[Act.eval,Array.getD_eq_getD_getElem?,List.getElem?_toArray,List.getElem?_cons_succ,List.getElem?_cons_zero,Option.getD_some] at hnum
  subst hnum
  have t:=t.value (v:=.int .i64 0) (w':=w1) rfl rfl (Go.ConcR.Gen.base_kind _) (by (go_simp;decide))
  revert t;walk_nrm;intro t
  have hw1:IntKind.i64.wrap ((i:Int)+1)=((i+1:Nat):Int):=by rw[IntKind.wrap_i64];omega
  have t:=t.value (v:=.int .i64 ((i+1:Nat):Int)) (w':=w1) rfl rfl (Go.ConcR.Gen.base_kind _) (by go_simp)
  revert t;walk_nrm;intro t
  have t:=t.value (v:=.int .i64 ((i+1:Nat):Int)) (w':=w1) rfl rfl (Go.ConcR.Gen.base_kind _) (by go_simp)
  revert t;walk_nrm;intro t
  have t:=t.ctl fun _ _=>stepG_region_end
  have t:=t.ctl fun _ _=>stepG_inLoop
  have hi1:i+1+r=n:=by omega
  obtain⟨h3,h4⟩:=ih (i+1) hi1 _ _ _ _ _ _ _ _ _ _ _ _ _ _ _ _ _ t
  refine⟨fun j h5 h6=>?_,h4⟩
  by_cases q:j=i
  ·subst q
   exact⟨b,off,c,e,z,x,y,rfl,hb,hc0,hc1⟩
  ·exact h3 j (by omega) h6
set_option maxRecDepth 100000 in
theorem zna[zls]{f:FuncId}{FinP:Frame->World->Prop}{v:Value}{cs:List Frame}{w:World}{rest:Code}{kk:List Item}(W:Whole Sq.prog)(hrel:∀ n m ad,v.cells[1]?=some (.slice (some ad) n m)->0<n->∃ o,w.heap[ad.block]?=some o/\∀ x y,o≠.view x y)(t:zbY Sq.prog FinP ((base f).at ⟨#[v,undef,undef,undef,undef,undef,undef,undef,undef,undef,undef,undef,undef,undef,undef,undef,undef,undef,undef,undef,undef,undef],[]⟩ (.code (zjx rest)::kk)) cs w) :
  ∃ wd ga n m,v=.agg #[.int .i64 wd,.slice ga n m]/\n<4611686018427387904/\∀ j,j<n->∃ b off c e z x y,ga=some ⟨b,off,none⟩/\w.heap[b]?=some (.cells c e z)/\c[off+j * 2]?=some (.int .i64 x)/\c[off+j * 2+1]?=some (.int .i64 y):=by
 unfold zjx ckA at t
 simp only[opr] at t
 have t:=t.ctl fun _ _=>stepG_seq
 have t:=t.ctl fun _ _=>stepG_region
 simp only[List.size_toArray,List.length_cons,List.length_nil,Nat.reduceAdd,Nat.zero_add,List.range,List.range.loop] at t
 have t:=t.value (v:=.pointer (some ⟨w.heap.size,0,none⟩)) (w':=w.alloc (.cells v.cells 33)) rfl rfl (Go.ConcR.Gen.base_kind _) (by unfold execOp;simp[Instr.box,newVar,newRow,Act.eval])
 revert t;walk_nrm;intro t
 have hb:=(za5 w (.cells v.cells 33)).1
 have hk1:∀ r,r<w.heap.size->(w.alloc (.cells v.cells 33)).heap[r]?=w.heap[r]?:=(za5 w (.cells v.cells 33)).2
 obtain⟨w1,hw1⟩:∃ w1,w1=w.alloc (.cells v.cells 33):=⟨_,rfl⟩
 rw[<- hw1] at t hb hk1
 clear hw1
 obtain⟨cc,hcc⟩:∃ cc,v.cells=cc:=⟨_,rfl⟩
 rw[hcc] at hb
 have t:=t.value (v:=.pointer (some ⟨w.heap.size,0,none⟩)) (w':=w1) rfl rfl (Go.ConcR.Gen.base_kind _) (by go_simp)
 revert t;walk_nrm;intro t
 obtain⟨x0,w2,hr⟩:=t.ran W rfl rfl
 obtain⟨c0,hc0⟩:=zdW (i:=0) rfl rfl (by simp) hb hr
 clear hr x0 w2
 have gc0:w1.cell? ⟨w.heap.size,0,none⟩=some c0:=(zcU hb).trans hc0
 have t:=t.value (v:=c0) (w':=w1) rfl rfl (Go.ConcR.Gen.base_kind _) (by go_simp)
 revert t;walk_nrm;intro t
 obtain⟨x0,w2,hr⟩:=t.ran W rfl rfl
 obtain⟨wd,hnum⟩:=zhp rfl hr
 clear hr x0 w2
 simp only[Act.eval,Array.getD_eq_getD_getElem?,List.getElem?_toArray,List.getElem?_cons_succ,List.getElem?_cons_zero,Option.getD_some] at hnum
 subst hnum
 have t:=t.value (v:=.int .i64 0) (w':=w1) rfl rfl (Go.ConcR.Gen.base_kind _) (by (go_simp;decide))
 revert t;walk_nrm;intro t
 have t:=t.value (v:=.pointer (some ⟨w.heap.size,1,none⟩)) (w':=w1) rfl rfl (Go.ConcR.Gen.base_kind _) (by go_simp)
 revert t;walk_nrm;intro t
 obtain⟨x0,w2,hr⟩:=t.ran W rfl rfl
 obtain⟨c1,hc1⟩:=zdW (i:=1) rfl rfl (by simp) hb hr
 clear hr x0 w2
 have gc1:w1.cell? ⟨w.heap.size,1,none⟩=some c1:=(zcU hb).trans hc1
 have t:=t.value (v:=c1) (w':=w1) rfl rfl (Go.ConcR.Gen.base_kind _) (by go_simp)
 revert t;walk_nrm;intro t
 obtain⟨x0,w2,hr⟩:=t.ran W rfl rfl
 obtain⟨ga,n,m,hnum⟩:=zpw (e:=48) rfl (by simp) hr
 clear hr x0 w2
 simp only[Act.eval,Array.getD_eq_getD_getElem?,List.getElem?_toArray,List.getElem?_cons_succ,List.getElem?_cons_zero,Option.getD_some] at hnum
 subst hnum
 have t:=t.value (v:=.int .i64 n) (w':=w1) rfl rfl (Go.ConcR.Gen.base_kind _) (by go_simp)
 revert t;walk_nrm;intro t
 have t:=t.value (v:=.int .i64 0) (w':=w1) rfl rfl (Go.ConcR.Gen.base_kind _) (by go_simp)
 revert t;walk_nrm;intro t
 have t:=t.value (v:=.bool (decide ((n:Int)<4611686018427387904))) (w':=w1) rfl rfl (Go.ConcR.Gen.base_kind _) (by go_simp)
 revert t;walk_nrm;intro t
 have t:=t.ctl fun _ _=>stepG_region_end
 have t:=t.ctl fun _ _=>stepG_seq
 obtain⟨q,hq,t⟩:=t.cond
 have hq2:decide ((n:Int)<4611686018427387904)=q:=by simpa [Act.eval] using hq
 cases q with
 | false=>exact(t.refuse).elim
 | true =>
  simp only[↓reduceIte] at t
  have t:=t.ctl fun _ _=>stepG_skip
  have t:=t.ctl fun _ _=>stepG_seq
  have t:=t.ctl fun _ _=>stepG_block
  have t:=t.ctl fun _ _=>stepG_loop
  have hga:0<n->∀ ad,ga=some ad->∃ o,w.heap[ad.block]?=some o/\∀ x y,o≠.view x y:=fun hn0 ad e=>by subst e;exact hrel n m ad (by rw[hcc];exact hc1) hn0
  have hgb:0<n->∀ ad,ga=some ad->∃ b off c e z,ad=⟨b,off,none⟩/\w1.heap[b]?=some (.cells c e z):=by
   intro hpos ad e
   subst e
   obtain⟨ob,hob,hnv⟩:=hga hpos ad rfl
   have hob1:w1.heap[ad.block]?=some ob:=(hk1 _ (gei hob).1).trans hob
   unfold ckL at t
   simp only[opr] at t
   have t:=t.ctl fun _ _=>stepG_seq
   have t:=t.ctl fun _ _=>stepG_region
   simp only[List.size_toArray,List.length_cons,List.length_nil,Nat.zero_add,List.range,List.range.loop] at t
   have h1:(0:Int)<(n:Int):=by omega
   have t:=t.value (v:=.bool true) (w':=w1) rfl rfl (Go.ConcR.Gen.base_kind _) (by go_simp)
   revert t;walk_nrm;intro t
   have t:=t.ctl fun _ _=>stepG_region_end
   have t:=t.ctl fun _ _=>stepG_seq
   have t:=t.ctl fun _ _=>stepG_cond (t:=true) rfl
   simp only[↓reduceIte] at t
   have t:=t.ctl fun _ _=>stepG_skip
   have t:=t.ctl fun _ _=>stepG_region
   simp only[List.size_toArray,List.length_cons,List.length_nil,Nat.reduceAdd,Nat.zero_add,List.range,List.range.loop] at t
   have hadd:ad.add (0 * 2)=ad:=by simp[Addr.add]
   have hadd2:ad.add 0=ad:=by simp[Addr.add]
   have t:=t.value (v:=.pointer (some ad)) (w':=w1) rfl rfl (Go.ConcR.Gen.base_kind _) (by (first|(go_simp;done)|(go_simp;simp[Addr.add];done)))
   revert t;walk_nrm;intro t
   have t:=t.value (v:=.pointer (some ad)) (w':=w1) rfl rfl (Go.ConcR.Gen.base_kind _) (by (first|(go_simp;done)|(go_simp;simp[Addr.add];done)))
   revert t;walk_nrm;intro t
   obtain⟨x0,w2,hr⟩:=t.ran W rfl rfl
   obtain⟨q1,c,e,z,q2⟩:=zho (p:=ad) rfl rfl (by simp) hob1 hnv hr
   obtain⟨b,off,sp⟩:=ad
   simp only at q1 q2
   subst q1
   exact⟨b,off,c,e,z,rfl,q2⟩
  have hn:n<=9223372036854775806:=by have:=of_decide_eq_true hq2;omega
  obtain⟨h1,u1,u3,u4,u5,u6,u10,u11,u12,u13,u14,u15,u16,u17,u18,u19,u20,u21,t⟩:=zrt W hn hgb n 0 (by omega) _ _ _ _ _ _ _ _ _ _ _ _ _ _ _ _ _ t
  unfold ckS at t
  simp only[opr] at t
  have t:=t.ctl fun _ _=>stepG_seq
  have t:=t.ctl fun _ _=>stepG_region
  simp only[List.size_toArray,List.length_cons,List.length_nil,Nat.zero_add,List.range,List.range.loop] at t
  obtain⟨x0,w2,hr⟩:=t.ran W rfl rfl
  have hsz:=zlG (q:=2) rfl (by simp) ⟨_,rfl⟩ hr
  clear hr x0 w2
  replace hsz:v.cells.size=2:=hsz
  rw[hcc] at hsz
  refine⟨wd,ga,n,m,?_,by have:=of_decide_eq_true hq2;omega,fun j hj=>?_⟩
  ·have e:cc=#[.int .i64 wd,.slice ga n m]:=by
    refine Array.ext (by simpa using hsz) fun i h2 h3=>?_
    match i,h2 with
    | 0,h2=>rw[Array.getElem?_eq_getElem h2] at hc0;simpa using hc0
    | 1,h2=>rw[Array.getElem?_eq_getElem h2] at hc1;simpa using hc1
    | k+2,h2=>omega
   rw[e] at hcc
   cases v with
   | agg c=>exact congrArg Value.agg hcc
   | _=>exact absurd (congrArg Array.size hcc) (by simp[Value.cells])
  ·obtain⟨b,off,c,e,z,x,y,q1,q2,q3⟩:=h1 j (Nat.zero_le _) hj
   obtain⟨o,p1,p2⟩:=hga (by omega) _ q1
   exact⟨b,off,c,e,z,x,y,q1,(hk1 b (gei p1).1) ▸ q2,q3⟩
end
section
open Go
theorem zsp(f:Func):Extern.findNext (zcN f)=none:=by
 have h:Extern.allNextRows.lookup "none"=none:=by kernel_rfl
 simp[Extern.findNext,zcN,h]
theorem zso(f:Func):Extern.find (zcN f)=none:=by
 have h1:Extern.allGenericRows.lookup "none"=none:=by kernel_rfl
 have h2:Extern.allTypedRows.lookup "none"=none:=by kernel_rfl
 have h3:Extern.allRows.lookup "none"=none:=by kernel_rfl
 simp[Extern.find,zcN,h1,h2,h3]
theorem zjZ(h:L.funcs[i]?=some (zcN f))(args:Array Value):zcz L (callFunc i args):=by
 intro w
 have e1:¬ (zcN f).name= "runtime.NumGoroutine":=by show ¬ "none"= "runtime.NumGoroutine";decide
 have e2:((zcN f).name.endsWith ".init")=false:=by show ("none".endsWith ".init")=false;kernel_rfl
 have e3:(zcN f).body=none:=rfl
 have hh:∃ w',(callFunc i args).run L w=.halt (.unsupported (.extern "none")) w':=by
  unfold callFunc
  simp[h,e1,e2,e3,zsp,zso,unsupported]
  rfl
 obtain⟨w',e⟩:=hh
 exact⟨_,w',e,.unsupported _⟩
section
variable{P:Program}{off:Nat->Bool}{alt:Nat->Func->Func}{X:Nat->Bool}
structure zcR(P:Program)(off:Nat->Bool)(alt:Nat->Func->Func)(X:Nat->Bool):Prop where
 globals:P.globals.size=0
 plain:∀(i:Nat) (f:Func),P.funcs[i]?=some f->off i=false->f.body.isSome=true/\(f.name == "runtime.NumGoroutine")=false
 inX:∀ i,X i=true->off i=true
 body:∀(i:Nat) (f:Func),P.funcs[i]?=some f->X i=true->f.body.isSome=true/\(f.name == "runtime.NumGoroutine")=false/\(alt i f).body.isSome=true/\((alt i f).name == "runtime.NumGoroutine")=false/\(alt i f).results=f.results
 none:∀(i:Nat) (f:Func),P.funcs[i]?=some f->off i=true->X i=false->alt i f=zcN f
theorem zdD{fn:Func}(h:(zaA P off alt).funcs[i]?=some fn):∃ f,P.funcs[i]?=some f/\fn=if off i then alt i f else f:=by
 have h':(P.funcs.mapIdx fun i f=>if off i then alt i f else f)[i]?=some fn:=h
 rw[Array.getElem?_mapIdx] at h'
 cases e:P.funcs[i]? with
 | none=>rw[e] at h';cases h'
 | some f =>
  rw[e] at h'
  exact⟨f,rfl,by simpa using h'.symm⟩
theorem zcR.twin2(C:zcR P off alt X):zbA (zaA P off alt) P:=by
 obtain⟨T,F⟩:=P
 exact { info:=fun t=>zqC T _ _ t,und:=fun t=>zgi T _ _ t,stood:=fun t=>zoO T _ _ t,eqg:=fun d t=>zoN T _ _ d t,depth:=zja T _ _,globals:=C.globals,boc:=fun d e n=>zcp T _ _ d e n,cab:=fun d e c o n=>zrV T _ _ d e c o n }
theorem zcR.dead(C:zcR P off alt X){fn:Func}(h:(zaA P off alt).funcs[i]?=some fn)(hb:fn.body.isSome=false)(args:Array Value):zcz (zaA P off alt) (callFunc i args):=by
 obtain⟨f,hf,e⟩:=zdD h
 cases ho:off i with
 | false =>
  rw[ho] at e
  have e':fn=f:=by simpa using e
  have:=(C.plain i f hf ho).1
  rw[<- e',hb] at this
  cases this
 | true =>
  rw[ho] at e
  have e':fn=alt i f:=by simpa using e
  cases hx:X i with
  | true =>
   have:=(C.body i f hf hx).2.2.1
   rw[<- e',hb] at this
   cases this
  | false =>
   rw[e',C.none i f hf ho hx] at h
   exact zjZ h args
theorem zcR.fn(C:zcR P off alt X){i:Nat}{fn:Func}(h:(zaA P off alt).funcs[i]?=some fn)(hb:fn.body.isSome=true):(fn.name == "runtime.NumGoroutine")=false/\∃ fn':Func,P.funcs[i]?=some fn'/\fn'.body.isSome=true/\(fn'.name == "runtime.NumGoroutine")=false:=by
 obtain⟨f,hf,e⟩:=zdD h
 cases ho:off i with
 | false =>
  rw[ho] at e
  have e':fn=f:=by simpa using e
  obtain⟨h1,h2⟩:=C.plain i f hf ho
  exact⟨by rw[e'];exact h2,f,hf,h1,h2⟩
 | true =>
  rw[ho] at e
  have e':fn=alt i f:=by simpa using e
  cases hx:X i with
  | true =>
   obtain⟨h1,h2,h3,h4,_⟩:=C.body i f hf hx
   exact⟨by rw[e'];exact h4,f,hf,h1,h2⟩
  | false =>
   rw[e',C.none i f hf ho hx] at hb
   cases hb
theorem zcR.twin3(C:zcR P off alt X):zaB (zaA P off alt) P :=
 {C.twin2 with
  fn:=fun _ _ h hb=>C.fn h hb
  dead:=fun _ _ h hb args=>C.dead h hb args
  types:=rfl }
theorem zcR.self(C:zcR P off alt X):zaB (zaA P off alt) (zaA P off alt) :=
 {info:=fun _=>rfl,und:=fun _=>rfl,stood:=fun _=>rfl,eqg:=fun _ _=>rfl,depth:=rfl,globals:=C.globals,boc:=fun _ _ _=>rfl,cab:=fun _ _ _ _ _=>rfl
  fn:=fun _ fn h hb=>⟨(C.fn h hb).1,fn,h,hb,(C.fn h hb).1⟩
  dead:=fun _ _ h hb args=>C.dead h hb args
  types:=rfl }
structure zfp(P:Program)(off:Nat->Bool)(alt:Nat->Func->Func)(X:Nat->Bool):Prop where
 code:∀(i:Nat) (f:Func) (c:Code),P.funcs[i]?=some f->off i=false->f.body=some c->codeOk (zaA P off alt) c=true
 acode:∀(i:Nat) (f:Func) (c:Code),P.funcs[i]?=some f->X i=true->(alt i f).body=some c->codeOk (zaA P off alt) c=true
 early:∀ g,(zaA P off alt).stepOf g=none
 ahead:P.follows .staticDataAhead=true
 zero:zbo P
theorem zcR.bodies(C:zcR P off alt X)(K:zfp P off alt X):Bodies (zaA P off alt) P (fun i=>X i=true) where
 same:=by
  intro i fn h hb hx
  obtain⟨f,hf,e⟩:=zdD h
  cases ho:off i with
  | false =>
   rw[ho] at e
   have e':fn=f:=by simpa using e
   rw[e'];exact hf
  | true =>
   rw[ho] at e
   have e':fn=alt i f:=by simpa using e
   have hx':X i=false:=by simpa using hx
   rw[e',C.none i f hf ho hx'] at hb
   cases hb
 code:=by
  intro i fn c h hc hx
  obtain⟨f,hf,e⟩:=zdD h
  cases ho:off i with
  | false =>
   rw[ho] at e
   have e':fn=f:=by simpa using e
   exact K.code i f c hf ho (by rw[<- e'];exact hc)
  | true =>
   rw[ho] at e
   have e':fn=alt i f:=by simpa using e
   have hx':X i=false:=by simpa using hx
   rw[e',C.none i f hf ho hx'] at hc
   cases hc
 res:=by
  intro i fn fn' h h'
  obtain⟨f,hf,e⟩:=zdD h
  have e2:fn'=f:=by rw[hf] at h';exact(Option.some.inj h').symm
  rw[e2]
  cases ho:off i with
  | false =>
   rw[ho] at e
   have e':fn=f:=by simpa using e
   rw[e']
  | true =>
   rw[ho] at e
   have e':fn=alt i f:=by simpa using e
   cases hx:X i with
   | true=>rw[e',(C.body i f hf hx).2.2.2.2]
   | false=>rw[e',C.none i f hf ho hx];rfl
 early:=K.early
 ahead:=K.ahead
 mixed:=rfl
theorem zcR.whole(C:zcR P off alt X)(K:zfp P off alt X):Whole (zaA P off alt) where
 same:=fun _ _ h _ _=>h
 code:=by
  intro i fn c h hc _
  obtain⟨f,hf,e⟩:=zdD h
  cases ho:off i with
  | false =>
   rw[ho] at e
   have e':fn=f:=by simpa using e
   exact K.code i f c hf ho (by rw[<- e'];exact hc)
  | true =>
   rw[ho] at e
   have e':fn=alt i f:=by simpa using e
   cases hx:X i with
   | true=>exact K.acode i f c hf hx (by rw[<- e'];exact hc)
   | false =>
    rw[e',C.none i f hf ho hx] at hc
    cases hc
 res:=by
  intro i fn fn' h h'
  rw[h] at h'
  rw[Option.some.inj h']
 early:=K.early
 ahead:=K.ahead
 mixed:=rfl
 zero:=K.zero
end
def zbz(c:Array Value):Prop:=∀ R:BR,zaz R c c
def zhi(i:TypeInfo):Prop:=∀ v,i.zero=some v->Plain v
theorem zbz.nil:zbz #[]:=fun _=>zaz.nil
theorem zbz.app{d:Array Value}(h:zbz c)(h2:zbz d):zbz (c++d):=fun R=>(h R).app (h2 R)
theorem Plain.cells(h:Plain v):zbz v.cells:=fun R=>(h R).cells
theorem zbz.agg(h:zbz c):Plain (.agg c):=fun R=>.agg (h R).1 (h R).2
theorem zbz.many(h:zbz c)(n:Nat):zbz (Array.replicate n c).flatten:=by
 induction n with
 | zero=>simpa using zbz.nil
 | succ n ih =>
  rw[Array.replicate_succ]
  simp only[Array.flatten_push]
  exact ih.app h
theorem zn3{α β:Type}(I:β->Prop){f:α->β->Option (ForInStep β)}(hf:∀ a b r,I b->f a b=some r->I r.value):∀(l:List α) (b b':β),I b->forIn l b f=some b'->I b'
 | [],b,b',h,e=>by
  rw[List.forIn_nil] at e
  cases e
  exact h
 | a::l,b,b',h,e=>by
  rw[List.forIn_cons] at e
  cases q:f a b with
  | none=>rw[q] at e;cases e
  | some r =>
   rw[q] at e
   have h1:=hf a b r h q
   cases r with
   | done d=>cases e;exact h1
   | yield d=>exact zn3 I hf l d b' h1 e
theorem zo0(hz:∀ c,z=some c->zbz c){i:TypeInfo}(hi:zhi i){p:Prop}[Decidable p]:∀ c,(if p then none else (z.bind fun x=>i.zero.bind fun y=>some (x++y.cells)))=some c->zbz c:=by
 intro c h
 split at h
 ·cases h
 ·obtain⟨x,hx,h⟩:=Option.bind_eq_some_iff.1 h
  obtain⟨y,hy,h⟩:=Option.bind_eq_some_iff.1 h
  cases h
  exact(hz x hx).app (hi y hy).cells
theorem zky{info:TypeId->Option TypeInfo}(hi:∀ t i,info t=some i->zhi i){fs:Array Field}{i:TypeInfo}(h:Made.reckonStruct info fs=some i):zhi i:=by
 unfold Made.reckonStruct at h
 simp only[<- Array.forIn_toList] at h
 obtain⟨s,hs,h⟩:=Option.bind_eq_some_iff.1 h
 have hI:=zn3 (fun s=>∀ c,s.2.2.2.2.2.2.2.1=some c->zbz c) (by
  intro a b r hb e
  obtain⟨j,hj,e⟩:=Option.bind_eq_some_iff.1 e
  have h1:=hi _ _ hj
  split at e
  ·cases e
  split at e
  ·cases e
  split at e
  all_goals
   obtain⟨tag,htag,e⟩:=Option.bind_eq_some_iff.1 e
   clear htag
   generalize (if b.1.size+1<fs.size then ";" else "")=sep at e
   split at e
  all_goals
   have e':=Option.some.inj e
   subst e'
   exact zo0 hb h1) _ _ _ (fun c h=>by cases h;exact zbz.nil) hs
 intro v hv
 have fin:∀ c:Option (Array Value),c=s.2.2.2.2.2.2.2.1->c.map .agg=some v->Plain v:=by
  intro c hc e
  obtain⟨x,hx,e⟩:=Option.map_eq_some_iff.1 e
  rw[<- e]
  exact(hI x (by rw[<- hc];exact hx)).agg
 split at h
 all_goals
  have e:=Option.some.inj h
  subst e
  exact fin _ rfl hv
theorem zcy(d:TypeDesc)(s:String){z:Value}(hz:Plain z)(b:Bool)(n:Nat):zhi (Made.word d s z b n):=by
 intro v hv
 cases hv
 exact hz
theorem zkx{info:TypeId->Option TypeInfo}(hi:∀ t i,info t=some i->zhi i){d:TypeDesc}{i:TypeInfo}(h:Made.reckon info d=some i):zhi i:=by
 unfold Made.reckon at h
 cases d with
 | pointer e =>
  obtain⟨j,hj,h⟩:=Option.bind_eq_some_iff.1 h
  simp only at h
  split at h
  ·cases h
  ·split at h
   ·cases h
   ·obtain⟨s,hs,h⟩:=Option.bind_eq_some_iff.1 h
    cases h
    exact zcy _ _ (fun _=>.nilPtr) _ _
  ·obtain⟨s,hs,h⟩:=Option.bind_eq_some_iff.1 h
   cases h
   exact zcy _ _ (fun _=>.nilPtr) _ _
 | slice e =>
  obtain⟨j,hj,h⟩:=Option.bind_eq_some_iff.1 h
  obtain⟨s,hs,h⟩:=Option.bind_eq_some_iff.1 h
  cases h
  exact zcy _ _ (fun _=>.nilSlice 0 0) _ _
 | map k e =>
  obtain⟨j,hj,h⟩:=Option.bind_eq_some_iff.1 h
  obtain⟨s,hs,h⟩:=Option.bind_eq_some_iff.1 h
  obtain⟨j2,hj2,h⟩:=Option.bind_eq_some_iff.1 h
  obtain⟨s2,hs2,h⟩:=Option.bind_eq_some_iff.1 h
  cases h
  exact zcy _ _ (fun _=>.nilMap) _ _
 | chan dir e =>
  obtain⟨j,hj,h⟩:=Option.bind_eq_some_iff.1 h
  obtain⟨s,hs,h⟩:=Option.bind_eq_some_iff.1 h
  cases h
  exact zcy _ _ (fun _=>.nilChan) _ _
 | func ps rs v =>
  obtain⟨s,hs,h⟩:=Option.bind_eq_some_iff.1 h
  cases h
  exact zcy _ _ (fun _=>.nilFunc) _ _
 | array n e =>
  obtain⟨j,hj,h⟩:=Option.bind_eq_some_iff.1 h
  obtain⟨s,hs,h⟩:=Option.bind_eq_some_iff.1 h
  have e:=Option.some.inj h
  subst e
  intro v hv
  have hv':(if n * j.size > Made.mostCells then none else if n * j.size=0 then some (.agg #[]) else j.zero.map fun z=>.agg ((Array.replicate n z.cells).flatten))=some v:=hv
  split at hv'
  ·cases hv'
  ·split at hv'
   ·cases hv';exact zbz.nil.agg
   ·obtain⟨z,hz,e⟩:=Option.map_eq_some_iff.1 hv'
    rw[<- e]
    exact((hi _ _ hj z hz).cells.many n).agg
 | struct fs=>exact zky hi h
 | _=>cases h
theorem zgs{T:Tables}(ht:∀ t i,t<T.types.size->T.types[t]?=some i->zhi i):∀(n:Nat) (t:TypeId) (i:TypeInfo),Made.infoAt T n t=some i->zhi i
 | 0,_,_,h=>by cases h
 | n+1,t,i,h=>by
  unfold Made.infoAt at h
  split at h
  ·rename_i h1;exact ht t i h1 h
  ·obtain⟨d,hd,h⟩:=Option.bind_eq_some_iff.1 h
   exact zkx (zgs ht n) h
def zqR(i:TypeInfo):Bool:=match i.zero with|some v=>zbs 50 v|none=>true
theorem zr0{P:Program}(h:(P.types.toList.all zqR)=true):zbo P:=by
 have ht:∀ t i,t<P.types.size->P.types[t]?=some i->zhi i:=by
  intro t i h1 h2 v hv
  have hm:i∈P.types.toList:=by
   rw[Array.mem_toList_iff]
   exact Array.mem_of_getElem? h2
  have:=List.all_eq_true.1 h i hm
  simp only[zqR,hv] at this
  exact zec 50 v this
 intro t i v hi hv
 have hi':(if t<P.types.size then P.types[t]? else Made.infoAt P.toTables Made.depth t)=some i:=hi
 split at hi'
 ·rename_i h1;exact ht t i h1 hi' v hv
 ·exact zgs ht _ t i hi' v hv
section
variable{P:Program}
def zo4(P:Program)(p:Nat->Func->Bool):Bool:=(List.range P.funcs.size).all fun i=>match P.funcs[i]? with|some f=>p i f|none=>true
theorem zjq(h:zo4 P p=true)(hf:P.funcs[i]?=some f):p i f=true:=by
 have hi:i<P.funcs.size:=by
  obtain⟨h1,_⟩:=gei hf
  exact h1
 have:=List.all_eq_true.1 h i (List.mem_range.2 hi)
 simpa [hf] using this
end
section
variable{P:Program}{off:Nat->Bool}{alt:Nat->Func->Func}{X:Nat->Bool}
def zoc(off:Nat->Bool)(i:Nat)(f:Func):Bool:=off i || (f.body.isSome && !(f.name == "runtime.NumGoroutine"))
def readyB(f:Func):Bool:=match f.body with|some c=>(readies c).isEmpty|none=>true
theorem zpt(h:zo4 P (fun i f=>readyB f && (!(off i) || readyB (alt i f)))=true)(g:Nat):(zaA P off alt).stepOf g=none:=by
 unfold Program.stepOf
 rw[Array.findIdx?_eq_none_iff]
 intro fn hfn
 obtain⟨i,hi,e⟩:=Array.mem_iff_getElem.1 hfn
 have hg:(zaA P off alt).funcs[i]?=some fn:=by rw[Array.getElem?_eq_getElem hi,e]
 obtain⟨f,hf,e2⟩:=zdD hg
 have h1:=zjq h hf
 have h2:readyB fn=true:=by
  cases ho:off i with
  | false=>simp[ho] at e2;rw[e2];simp at h1;exact h1.1
  | true=>simp[ho] at e2;rw[e2];simp[ho] at h1;exact h1.2
 unfold readyB at h2
 cases hb:fn.body with
 | none=>simp
 | some c =>
  simp only[hb] at h2
  have h3:readies c=[]:=by simpa using h2
  simp[h3]
theorem zkD(hg:P.globals.size=0)(h1:zo4 P (zoc off)=true)(hX:∀ i,X i=true->off i=true)(hx:∀(i:Nat) (f:Func),P.funcs[i]?=some f->X i=true->f.body.isSome=true/\(f.name == "runtime.NumGoroutine")=false/\(alt i f).body.isSome=true/\((alt i f).name == "runtime.NumGoroutine")=false/\(alt i f).results=f.results)(hn:∀(i:Nat) (f:Func),off i=true->X i=false->alt i f=zcN f):zcR P off alt X where
 globals:=hg
 plain:=by
  intro i f hf ho
  have:=zjq h1 hf
  simpa [zoc,ho] using this
 inX:=hX
 body:=hx
 none:=fun i f _ ho hx=>hn i f ho hx
def zpl(L:Program)(off:Nat->Bool)(i:Nat)(f:Func):Bool:=off i || (match f.body with|some c=>codeOk L c|none=>true)
theorem zgI(hc:zo4 P (zpl (zaA P off alt) off)=true)(ha:∀(i:Nat) (f:Func) (c:Code),P.funcs[i]?=some f->X i=true->(alt i f).body=some c->codeOk (zaA P off alt) c=true)(he:zo4 P (fun i f=>readyB f && (!(off i) || readyB (alt i f)))=true)(hd:P.follows .staticDataAhead=true)(hz:(P.types.toList.all zqR)=true):zfp P off alt X where
 code:=by
  intro i f c hf ho hb
  have:=zjq hc hf
  simpa [zpl,ho,hb] using this
 acode:=ha
 early:=zpt he
 ahead:=hd
 zero:=zr0 hz
end
def Sq.X(i:Nat):Bool:=i == 54
theorem Sq.plain:zo4 Tryz.prog (zoc Sq.off)=true:=by kernel_rfl
theorem Sq.globals:Tryz.prog.globals.size=0:=by kernel_rfl
theorem Sq.ahead:Tryz.prog.follows .staticDataAhead=true:=by kernel_rfl
theorem Sq.zeros:Tryz.prog.types.toList.all zqR=true:=by kernel_rfl
theorem Sq.codeP:zo4 Tryz.prog (zpl (zaA Tryz.prog Sq.off Sq.altP) Sq.off)=true:=by kernel_rfl
theorem Sq.codeN:zo4 Tryz.prog (zpl (zaA Tryz.prog Sq.off Sq.altN) Sq.off)=true:=by kernel_rfl
theorem Sq.readyP:zo4 Tryz.prog (fun i f=>readyB f && (!(Sq.off i) || readyB (Sq.altP i f)))=true:=by kernel_rfl
theorem Sq.readyN:zo4 Tryz.prog (fun i f=>readyB f && (!(Sq.off i) || readyB (Sq.altN i f)))=true:=by kernel_rfl
theorem Sq.codeS:codeOk (zaA Tryz.prog Sq.off Sq.altP) zrr=true:=by kernel_rfl
theorem Sq.one(i:Nat)(h:Sq.X i=true):i=54:=by simpa [Sq.X] using h
theorem Sq.okN:zcR Tryz.prog Sq.off Sq.altN (fun _=>false):=zkD Sq.globals Sq.plain (fun _ h=>by cases h) (fun _ _ _ h=>by cases h) (fun _ _ _ _=>rfl)
theorem Sq.okP:zcR Tryz.prog Sq.off Sq.altP Sq.X:=by
 refine zkD Sq.globals Sq.plain (fun i h=>?_) (fun i f hf h=>?_) (fun i f _ h=>?_)
 ·rcases Sq.one i h with rfl
  all_goals rfl
 ·rcases Sq.one i h with rfl
  ·have e:=Tryz.func54
   rw[hf] at e
   obtain rfl:=Option.some.inj e
   exact⟨rfl,rfl,rfl,rfl,rfl⟩
 ·have h':(i == 54)=false:=h
  simp only[Sq.altP,h',Bool.false_eq_true,↓reduceIte]
theorem Sq.ckN:zfp Tryz.prog Sq.off Sq.altN (fun _=>false):=zgI Sq.codeN (fun _ _ _ _ h=>by cases h) Sq.readyN Sq.ahead Sq.zeros
theorem Sq.ckP:zfp Tryz.prog Sq.off Sq.altP Sq.X:=zgI Sq.codeP (fun i f c _ h hb=>by
 rcases Sq.one i h with rfl
 ·have e:(Sq.altP 54 f).body=some zrr:=rfl
  rw[e] at hb
  obtain rfl:=Option.some.inj hb
  exact Sq.codeS) Sq.readyP Sq.ahead Sq.zeros
instance Sq.twinP:zaB (@Sq.prog Sq.P) Tryz.prog:=Sq.okP.twin3
instance Sq.selfP:zaB (@Sq.prog Sq.P) (@Sq.prog Sq.P):=Sq.okP.self
instance Sq.twinN:zaB (@Sq.prog Sq.N) Tryz.prog:=Sq.okN.twin3
instance Sq.selfN:zaB (@Sq.prog Sq.N) (@Sq.prog Sq.N):=Sq.okN.self
theorem Sq.wholeP:Whole (@Sq.prog Sq.P):=Sq.okP.whole Sq.ckP
