/- Part. -/
import Derived.Test.YthfhlgdeghnggaaGreatRows
import Derived.Deep.QuietTactic
import Derived.Laws.Bits64
import Derived.Deep.RegionLaw
import Derived.ProofKit
import Derived.OpenShut
import Derived.Carry
import Derived.Test.YthfhlgdeghnggaaGreatTAk
import Derived.Test.YthfhlgdeghnggaaGreatTAl
import Derived.Test.YthfhlgdeghnggaaGreatTAy
set_option maxHeartbeats 800000
set_option linter.unusedVariables false
namespace Go.Proofs.YthfhlgdeghnggaaGreat
variable{gs:List (Int × Int)}{l0:List (Nat × Obj)}{xs:List Int}{B N n:Nat}{p:Nat × Obj}{K Kc:Nat->Prop}{a ga ga':Option Addr}{v:Value}{w w' w1:World}
section
open Go
noncomputable abbrev SqP.prog:Program:=SqG.prog Sq.altP
abbrev SqP.underlying3:=@SqG.underlying3 Sq.altP
abbrev SqP.underlying25:=@SqG.underlying25 Sq.altP
abbrev SqP.underlying26:=@SqG.underlying26 Sq.altP
abbrev SqP.underlying67:=@SqG.underlying67 Sq.altP
abbrev SqP.func3:=@SqG.func3 Sq.altP
abbrev SqP.func6:=@SqG.func6 Sq.altP
abbrev SqP.func7:=@SqG.func7 Sq.altP
abbrev SqP.func8:=@SqG.func8 Sq.altP
abbrev SqP.func9:=@SqG.func9 Sq.altP
abbrev SqP.func10:=@SqG.func10 Sq.altP
abbrev SqP.func11:=@SqG.func11 Sq.altP
abbrev SqP.func12:=@SqG.func12 Sq.altP
abbrev SqP.func13:=@SqG.func13 Sq.altP
abbrev SqP.func26:=@SqG.func26 Sq.altP
abbrev SqP.func27:=@SqG.func27 Sq.altP
abbrev SqP.func28:=@SqG.func28 Sq.altP
abbrev SqP.func29:=@SqG.func29 Sq.altP
abbrev SqP.func31:=@SqG.func31 Sq.altP
abbrev SqP.func32:=@SqG.func32 Sq.altP
abbrev SqP.func33:=@SqG.func33 Sq.altP
abbrev SqP.func34:=@SqG.func34 Sq.altP
abbrev SqP.func36:=@SqG.func36 Sq.altP
abbrev SqP.func38:=@SqG.func38 Sq.altP
abbrev SqP.func50:=@SqG.func50 Sq.altP
abbrev SqP.func51:=@SqG.func51 Sq.altP
abbrev SqP.func52:=@SqG.func52 Sq.altP
theorem SqP.func54:SqP.prog.funcs[54]?=some (zmc Tryz.f54):=zkE rfl Tryz.func54
theorem SqP.ntmps54:(zmc Tryz.f54).ntmps=22:=rfl
theorem SqP.body54:(zmc Tryz.f54).body=some zrr:=rfl
theorem SqP.results54:(zmc Tryz.f54).results=Tryz.f54.results:=rfl
@[simp] theorem SqP.call54(a : Array Value)(w : World) : (callFunc 54 a).run SqP.prog w = .ok (.enter 54 a) w := zjz rfl Tryz.func54 rfl rfl a w
abbrev SqP.func55:=@SqG.func55 Sq.altP
abbrev SqP.func56:=@SqG.func56 Sq.altP
noncomputable abbrev SqN.prog:Program:=SqG.prog Sq.altN
abbrev SqN.func66:=@SqG.func66 Sq.altN
abbrev SqN.func67:=@SqG.func67 Sq.altN
abbrev SqN.func71:=@SqG.func71 Sq.altN
abbrev SqN.func72:=@SqG.func72 Sq.altN
abbrev SqN.func85:=@SqG.func85 Sq.altN
abbrev SqN.func86:=@SqG.func86 Sq.altN
abbrev SqN.func115:=@SqG.func115 Sq.altN
end
namespace Sp
open Go.RowKit
attribute [local go_sem ↓] Go.wp_at_zero Go.wp_at_succ
theorem zrs{Q:Exit->Act->World->Prop}{rest:Code}(wd:Int)(a:Option Addr)(cap:Nat)(cs:List (Int × Int))(w:World)(h:zak w a cs)(hm:cs.length<4611686018427387904)(hK:∀(w':World) (u1 u2 u3 u4 u5 u6 u7 u8 u9 u10 u11 u12 u13 u14 u15 u16 u17 u18 u19 u20 u21:Value),Below w.heap.size w w'->Code.wp SqP.prog rest Q ⟨#[.agg #[.int .i64 wd,.slice a cs.length cap],u1,u2,u3,u4,u5,u6,u7,u8,u9,u10,u11,u12,u13,u14,u15,u16,u17,u18,u19,u20,u21],[]⟩ w') :
  Code.wp SqP.prog (zjx rest) Q ⟨#[.agg #[.int .i64 wd,.slice a cs.length cap],undef,undef,undef,undef,undef,undef,undef,undef,undef,undef,undef,undef,undef,undef,undef,undef,undef,undef,undef,undef,undef],[]⟩ w:=by
 unfold zjx ckA ckS ckL
 simp only[opr]
 have b1:decide ((cs.length:Int)<4611686018427387904)=true:=decide_eq_true (by omega)
 have wz:IntKind.i64.wrap (wd * 0)=0:=by rw[Int.mul_zero];exact IntWalk.i64_in _ (by omega)
 have hb0:Below w.heap.size w (w.alloc (.cells #[.int .i64 wd,.slice a cs.length cap] 33)):=bel
 have g0:(w.alloc (.cells #[.int .i64 wd,.slice a cs.length cap] 33)).cell? ⟨w.heap.size,0,none⟩=some (.int .i64 wd):=by simp[go_sem]
 have g1:(w.alloc (.cells #[.int .i64 wd,.slice a cs.length cap] 33)).cell? ⟨w.heap.size,1,none⟩=some (.slice a cs.length cap):=by simp[go_sem]
 have f0:(w.alloc (.cells #[.int .i64 wd,.slice a cs.length cap] 33)).frozen? ⟨w.heap.size,0,none⟩=false:=by simp[go_sem]
 have f1:(w.alloc (.cells #[.int .i64 wd,.slice a cs.length cap] 33)).frozen? ⟨w.heap.size,1,none⟩=false:=by simp[go_sem]
 go_wp2_with fail
 obtain⟨w1,hw1⟩:∃ w1,w1=w.alloc (.cells #[.int .i64 wd,.slice a cs.length cap] 33):=⟨_,rfl⟩
 rw[<- hw1] at hb0 g0 g1 f0 f1 ⊢
 clear hw1 wz
 have hC:=h.below hb0
 go_loopw [9,10,11,12,13,14,15,16,17,18] (fun ii _ _ _ _ _ _ _ _ _ wr=>∃ i:Nat,i<=cs.length/\ii=.int .i64 i/\wr=w1) (fun ii _ _ _ _ _ _ _ _ _ _=>cs.length - (intOf ii).toNat)
 case atStart=>exact⟨0,Nat.zero_le _,rfl,rfl⟩
 case round =>
  rename World=>wo
  obtain⟨i,hi,rfl,ew⟩:=hrel
  subst ew
  by_cases hlt:i<cs.length
  ·rcases hC with q|⟨b,off,rfl,hbl,hc⟩
   ·rw[q] at hlt;simp at hlt
   obtain⟨z0,z1⟩:=hc i hlt
   obtain⟨t,et⟩:∃ t,cs.getD i (0,0)=t:=⟨_,rfl⟩
   rw[et] at z0 z1
   obtain⟨t0,t1⟩:=t
   simp only at z0 z1
   have bl:decide ((i:Int)<(cs.length:Int))=true:=decide_eq_true (by omega)
   have wa:IntKind.i64.wrap (t0 * 0)=0:=by rw[Int.mul_zero];exact IntWalk.i64_in _ (by omega)
   have wb:IntKind.i64.wrap (t1 * 0)=0:=by rw[Int.mul_zero];exact IntWalk.i64_in _ (by omega)
   have wi:IntKind.i64.wrap ((i:Int)+1)=(i:Int)+1:=IntWalk.i64_in _ (by omega)
   clear hc et
   go_wp2_with fail
   go_roundw
   case rel=>exact⟨i+1,by omega,by go_num,by first|rfl|trivial⟩
   case measure=>simp[intOf];omega
  ·have bl:decide ((i:Int)<(cs.length:Int))=false:=decide_eq_false (by omega)
   have hb2:=(hb0.setCell (p:=⟨w.heap.size,0,none⟩) (Nat.le_refl _) (.int .i64 wd)).setCell (p:=⟨w.heap.size,1,none⟩) (Nat.le_refl _) (.slice a cs.length cap)
   go_wp2_with fail
   exact hK _ _ _ _ _ _ _ _ _ _ _ _ _ _ _ _ _ _ _ _ _ _ hb2
end Sp
namespace Sp
variable{aLt:Nat->Func->Func}
open Go.RowKit
def zcP(w:World)(a:Option Addr)(xs:List Int):Prop:=xs=[]\/∃ b off,a=some ⟨b,off,none⟩/\b<w.heap.size/\∀ i,i<xs.length->w.cell? ⟨b,off+i,none⟩=some (.int .i64 (xs.getD i 0))
theorem zcP.below(h:zcP w a xs)(hb:Below w.heap.size w w'):zcP w' a xs:=by
 rcases h with h|⟨b,off,rfl,hbl,hc⟩
 ·exact Or.inl h
 ·exact Or.inr ⟨b,off,rfl,nll hbl hb.size,fun i hi=>zab hb (hc i hi)⟩
theorem zrK(h:zb7 w B v xs):∃ a cap,v=.slice a xs.length cap/\zcP w a xs:=by
 obtain⟨h1,h2⟩:=h
 rcases h2 with ⟨rfl,h2⟩|⟨g,cap,cur,rfl,hg,hh,_,_,_,ht⟩
 ·exact⟨none,0,by rw[h2],Or.inl (List.length_eq_zero_iff.1 h2)⟩
 ·refine⟨_,cap,rfl,Or.inr ⟨g,0,rfl,(gei hh).1,fun i hi=>?_⟩⟩
  simp only[Nat.zero_add]
  have e:(zbG xs)[i]?=some (.int .i64 (xs.getD i 0)):=by simp[zbG,List.getElem?_eq_getElem hi]
  rw[cell_of_row w g i cur 3 (0,0) hh,<- e,<- ht,List.getElem?_take_of_lt (by omega)]
  simp
theorem zcP.at{w:World}{a:Option Addr}{xs:List Int}(h:zcP w a xs){i:Nat}(hi:i<xs.length):∃ b off,a=some ⟨b,off,none⟩/\b<w.heap.size/\w.cell? ⟨b,off+i,none⟩=some (.int .i64 (xs.getD i 0)):=by
 rcases h with q|⟨b,off,e,hb,hc⟩
 ·rw[q] at hi;simp at hi
 ·exact⟨b,off,e,hb,hc i hi⟩
theorem zpK:((SqG.prog aLt).info? 3).map (fun i=>(i.zero,i.size,i.bytes))=some (some (.int .i64 0),1,8):=by kernel_rfl
theorem zj2{e:TypeId}{s:Nat}{xs:List Value}(h:w.ownsRow B e s v n xs)(hb:Below w.heap.size w w'):w'.ownsRow B e s v n xs:=by
 refine⟨h.1,?_⟩
 rcases h.2 with hn|⟨g,cap,cur,hv,hB,hg,rest⟩
 ·exact .inl hn
 ·exact .inr ⟨g,cap,cur,hv,hB,by rw[hb.block g (gei hg).1];exact hg,rest⟩
end Sp
namespace Sp
open Go.RowKit
attribute [local go_sem ↓] Go.wp_at_zero Go.wp_at_succ
abbrev zfd(wd:Int)(cs:List (Int × Int))(M:Nat):Obj:=.cells (Array.ofFn fun k:Fin M=>.int .i64 (za3 wd cs ((k:Nat):Int))) 3
end Sp
section
open Go Go.Conc Go.ConcN Go.RowKit Go.Conc.Lib Go.ConcR.Gen Go.ConcN.Gen
open Go.ConcR (KK wgBlock WgAt stA smA rd wr mk Payload Aside2 DC0)
theorem zd8:zdy=false:=rfl
def rng(R:BR):Nat->Prop:=fun c=>∃ b,R b c
theorem zbQ.snd{R:BR}{a c:Addr}(h:zbQ R a c):zbQ (zcu (rng R)) c c:=⟨⟨rfl,_,h.1⟩,rfl,rfl⟩
theorem zao.slice_fst{R:BR}{a':Addr}{c:Nat}(h:zao R (.slice ga n c) (.slice (some a') n c))(hn:0<n):∃ a,ga=some a/\zbQ R a a':=by
 cases h with
 | slice _ _ h=>exact⟨_,rfl,h⟩
 | empty _ _=>omega
theorem zei{R:BR}{m:Nat}(h:zao R (.slice ga n m) (.slice ga' n m)):zao (zcu (rng R)) (.slice ga' n m) (.slice ga' n m):=by
 cases h with
 | slice _ _ h=>exact .slice _ _ h.snd
 | nilSlice _ _=>exact .nilSlice _ _
 | empty _ _=>exact .empty _ _
theorem zl8{R:BR}(h:zbb N R w w'):Closed (rng R) w':=by
 rintro c ⟨b,hb⟩
 obtain⟨o,o',_,e2,ho⟩:=h.blk b c hb
 cases ho with
 | cells hr _ _=>exact .inl ⟨_,_,_,e2,zd8⟩
 | other hj _ =>
  cases hj with
  | map _=>exact .inr ⟨zd8,.inr ⟨_,_,e2⟩⟩
  | hid=>exact .inr ⟨zd8,.inr ⟨_,_,e2⟩⟩
  | number ha=>exact .inr ⟨zd8,.inl ⟨_,_,e2,ha.snd⟩⟩
open Classical in
noncomputable def held(K:Nat->Prop)(w:World):List (Nat × Obj):=(List.range w.heap.size).filterMap fun c=>if K c then (w.heap[c]?).map fun o=>(c,o) else none
theorem zbq :p∈held K w ↔ K p.1/\w.heap[p.1]?=some p.2:=by
 classical
 unfold held
 simp only[List.mem_filterMap,List.mem_range]
 constructor
 ·rintro⟨c,_,h⟩
  split at h
  ·rename_i hk
   obtain⟨o,ho,rfl⟩:=Option.map_eq_some_iff.1 h
   exact⟨hk,ho⟩
  ·cases h
 ·rintro⟨hk,ho⟩
  refine⟨p.1,(gei ho).1,?_⟩
  rw[if_pos hk,ho]
  rfl
theorem znB(K:Nat->Prop)(w:World):Hp (held K w) w:=fun _ h=>(zbq.1 h).2
theorem zjJ(h:Closed K w)(hp:Hp (held K w) w1):Closed K w1:=fun b hb=>by
 rcases h b hb with ⟨c,e,f,hx,hr⟩|⟨ho,⟨a,l,hx,hr⟩|⟨c,n,hx⟩⟩
 ·exact .inl ⟨c,e,f,hp (b,_) (zbq.2 ⟨hb,hx⟩),hr⟩
 ·exact .inr ⟨ho,.inl ⟨a,l,hp (b,_) (zbq.2 ⟨hb,hx⟩),hr⟩⟩
 ·exact .inr ⟨ho,.inr ⟨c,n,hp (b,_) (zbq.2 ⟨hb,hx⟩)⟩⟩
theorem zm8{cs:List (Int × Int)}(h:Sp.zak w a cs)(hb:∀ b off,a=some ⟨b,off,none⟩->w1.heap[b]?=w.heap[b]?)(τ:Nat->Question->Nat)(d:Nat):Sp.zak (w1.frz.tp τ d) a cs:=by
 rcases h with h|⟨b,off,rfl,hl,hc⟩
 ·exact .inl h
 ·have e:=hb b off rfl
  have hc1:∀ i,w1.cell? ⟨b,i,none⟩=w.cell? ⟨b,i,none⟩:=fun i=>by simp only[World.cell?,e]
  have hc2:∀ i (x:Int),w.cell? ⟨b,i,none⟩=some (.int .i64 x)->(w1.frz.tp τ d).cell? ⟨b,i,none⟩=some (.int .i64 x):=fun i x h=>by
   have q:=zpG w1 ⟨b,i,none⟩
   rw[hc1,h] at q
   exact q
  refine .inr ⟨b,off,rfl,?_,fun i hi=>⟨hc2 _ _ (hc i hi).1,hc2 _ _ (hc i hi).2⟩⟩
  show b<w1.frz.heap.size
  rw[ze8]
  rw[Array.getElem?_eq_getElem hl] at e
  exact(gei e).1
theorem zlA(h:∀ j,j<n->∃ b off c e z x y,ga=some ⟨b,off,none⟩/\w.heap[b]?=some (.cells c e z)/\c[off+j * 2]?=some (.int .i64 x)/\c[off+j * 2+1]?=some (.int .i64 y)) :
  ∃ cs:List (Int × Int),cs.length=n/\Sp.zak w ga cs:=by
 classical
 have hx:∀ j:Fin n,∃ p:Int × Int,∃ b off c e z,ga=some ⟨b,off,none⟩/\w.heap[b]?=some (.cells c e z)/\c[off+j.val * 2]?=some (.int .i64 p.1)/\c[off+j.val * 2+1]?=some (.int .i64 p.2):=fun j=>by
  obtain⟨b,off,c,e,z,x,y,h1,h2,h3,h4⟩:=h j.val j.isLt
  exact⟨(x,y),b,off,c,e,z,h1,h2,h3,h4⟩
 obtain⟨f,hf⟩:=Classical.axiomOfChoice hx
 refine⟨List.ofFn f,by simp,?_⟩
 by_cases hn:n=0
 ·subst hn;exact .inl (by simp)
 ·obtain⟨b,off,c,e,z,h1,h2,_,_⟩:=hf ⟨0,by omega⟩
  refine .inr ⟨b,off,h1,(gei h2).1,fun i hi=>?_⟩
  have hi':i<n:=by simpa using hi
  obtain⟨b1,off1,c1,e1,z1,q1,q2,q3,q4⟩:=hf ⟨i,hi'⟩
  rw[h1] at q1
  cases q1
  rw[h2] at q2
  cases q2
  have eg:(List.ofFn f).getD i (0,0)=f ⟨i,hi'⟩:=by simp[List.getD,hi']
  rw[eg]
  exact⟨by simp only[World.cell?,h2];exact q3,by simp only[World.cell?,h2];exact q4⟩
theorem zjw{R:BR}(hw:zbb N R w w'){m:Nat}(hv:zao R (.slice ga n m) (.slice ga' n m)){cs:List (Int × Int)}(hn:cs.length<=n)(h:Sp.zak w ga cs):Sp.zak w' ga' cs:=by
 rcases h with h|⟨b,off,rfl,hl,hc⟩
 ·exact .inl h
 ·cases hv with
  | slice _ _ ha =>
   rename_i ad'
   obtain⟨b',off',sp'⟩:=ad'
   obtain⟨h1,h2,h3⟩:=ha
   simp only at h1 h2 h3
   subst h2 h3
   refine .inr ⟨b',off,rfl,(hw.lt h1).2,fun i hi=>?_⟩
   obtain⟨c1,c2⟩:=hc i hi
   obtain⟨v1,e1,r1⟩:=hw.cell (a:=⟨b,off+i * 2,none⟩) (c:=⟨b',off+i * 2,none⟩) ⟨h1,rfl,rfl⟩ c1
   obtain⟨v2,e2,r2⟩:=hw.cell (a:=⟨b,off+i * 2+1,none⟩) (c:=⟨b',off+i * 2+1,none⟩) ⟨h1,rfl,rfl⟩ c2
   rw[e1,e2]
   exact⟨congrArg some (zci r1),congrArg some (zci r2)⟩
  | empty _ _=>exact .inl (List.eq_nil_of_length_eq_zero (by omega))
end
namespace Sp
open Go.ChangeShapes Go.WideShapes Go.ChangeAt Go.RowKit
attribute [local go_sem ↓] Go.wp_at_zero Go.wp_at_succ
theorem zpY(n:Nat):(madeCells #[Value.int .i64 0] (n * 1)).toList=zbG (List.replicate n 0):=by
 apply List.ext_getElem?
 intro i
 by_cases hi:i<n
 ·simp[madeCells,zbG,hi,Nat.mod_one]
 ·simp[madeCells,zbG,hi]
set_option maxRecDepth 20000 in
theorem zg5(a:Option Addr)(cap:Nat)(xs:List Int)(w:World)(h:zcP w a xs)(hm:xs.length<=1048576) :
  Calls SqP.prog 31 #[.slice a xs.length cap] w fun e w'=>∃ g,e=.returned (.slice (some ⟨g,0,none⟩) xs.length xs.length)/\zb7 w' w.heap.size (.slice (some ⟨g,0,none⟩) xs.length xs.length) xs/\Below w.heap.size w w':=by
 obtain⟨i0,hi,hz0,hz1,hz2⟩:=info_parts (zpK (aLt:=Sq.altP))
 go_enter SqP.func31,Tryz.ntmps31
 go_wp2_with (at_make;refine wpList_make_full _ rfl _ _ 25 rfl w.heap.size 3 i0 (.int .i64 0) 1 SqP.underlying25 hi hz0 hz1 .i64 .i64 _ _ xs.length rfl rfl rfl rfl ?_ ?_ ?_ ?_)
 ·rw[hz2];omega
 ·unfold maxLen;omega
 ·exact Nat.le_refl _
 intro w1 hO1 hg1
 have HO1:zb7 w1 w.heap.size (.slice (some ⟨w.heap.size,0,none⟩) xs.length xs.length) (List.replicate xs.length 0):=by
  unfold zb7
  rw[List.length_replicate,<- zpY,Nat.mul_one]
  simpa [Value.cells] using hO1
 have hb1:Below w.heap.size w w1:=(Below.refl _ _).grown hg1 (Nat.le_refl _) (fun k hk=>by cases hk)
 clear hO1 hg1
 go_wp2
 go_loopw [4] (fun i wr=>∃ (k:Nat) (ys:List Int),k<=xs.length/\i=.int .i64 k/\ys=xs.take k++List.replicate (xs.length - k) 0/\zb7 wr w.heap.size (.slice (some ⟨w.heap.size,0,none⟩) xs.length xs.length) ys/\Below w.heap.size w wr) (fun i _=>xs.length - (intOf i).toNat)
 case atStart=>exact⟨0,_,Nat.zero_le _,rfl,by simp,HO1,hb1⟩
 case round =>
  rename World=>wo
  obtain⟨k,ys,hk,rfl,hys,hO,hb⟩:=hrel
  by_cases hlt:k<xs.length
  ·obtain⟨b,off,rfl,hbl,hc⟩:=h.at hlt
   have hc2:=(hb.cell (p:=⟨b,off+k,none⟩) hbl).trans hc
   have hkI:(k:Int)<(xs.length:Int):=by omega
   have hyl:ys.length=xs.length:=by rw[hys];simp;omega
   unfold zb7 at hO
   rw[hyl] at hO
   have q0:=hO.cellAt k (by omega)
   have f0:=hO.frozenAt k
   have hst:=hO.stored k (.int .i64 (xs.getD k 0))
   have e0:(zbG ys)[k]?=some (.int .i64 (ys.getD k 0)):=by simp[zbG,List.getElem?_eq_getElem (show k<ys.length by omega)]
   rw[e0] at q0
   have hnx:zb7 (wo.setCell ⟨w.heap.size,k,none⟩ (.int .i64 (xs.getD k 0))) w.heap.size (.slice (some ⟨w.heap.size,0,none⟩) xs.length xs.length) (ys.set k (xs.getD k 0)):=by
    unfold zb7
    rw[show (ys.set k (xs.getD k 0)).length=xs.length by simp[hyl],show zbG (ys.set k (xs.getD k 0))=(zbG ys).set k (.int .i64 (xs.getD k 0)) by simp[zbG,List.map_set]]
    exact hst.1
   have hse:ys.set k (xs.getD k 0)=xs.take (k+1)++List.replicate (xs.length - (k+1)) 0:=by
    rw[hys,zes xs k 0 hlt,show xs.length - k=(xs.length - (k+1))+1 by omega,List.replicate_succ,List.set_append]
    simp
    rw[show min k xs.length=k by omega]
    simp
   have hbn:Below w.heap.size w (wo.setCell ⟨w.heap.size,k,none⟩ (.int .i64 (xs.getD k 0))):=hb.setCell (p:=⟨w.heap.size,k,none⟩) (Nat.le_refl _) _
   obtain⟨x,ex⟩:∃ x,xs.getD k 0=x:=⟨_,rfl⟩
   obtain⟨y,ey⟩:∃ y,ys.getD k 0=y:=⟨_,rfl⟩
   rw[ex] at hc2 hnx hse hbn
   rw[ey] at q0
   have HSE:Hid (ys.set k x=xs.take (k+1)++List.replicate (xs.length - (k+1)) 0):=hse
   clear hO hst e0 hyl hys hc hse ex ey
   go_wp2_with fail
   go_roundw
   case rel=>exact⟨k+1,_,by omega,by go_num,HSE.out,hnx,hbn⟩
   case measure=>simp[intOf];omega
  ·have hfin:ys=xs:=by rw[hys,List.take_of_length_le (by omega),show xs.length - k=0 by omega];simp
   rw[hfin] at hO
   clear hys hfin
   go_wp2_with fail
   go_ret
   exact⟨_,rfl,hO,hb⟩
theorem zij(a a2:Option Addr)(c c2:Nat)(xs:List Int)(w:World)(h:zcP w a xs)(h2:zcP w a2 xs)(hm:xs.length<=1048576) :
  Calls SqP.prog 10 #[.slice a xs.length c,.slice a2 xs.length c2] w fun e w'=>e=.returned (.bool true)/\Below w.heap.size w w':=by
 have bl:((xs.length:Int) != (xs.length:Int))=false:=by simp
 go_enter SqP.func10,Tryz.ntmps10
 go_wp2_with fail
 go_loopw [5] (fun ii wr=>∃ i:Nat,i<=xs.length/\ii=.int .i64 i/\Below w.heap.size w wr) (fun ii _=>xs.length - (intOf ii).toNat)
 case atStart=>exact⟨0,Nat.zero_le _,rfl,Below.refl _ _⟩
 case round =>
  rename World=>wo
  obtain⟨i,hi,rfl,hb⟩:=hrel
  by_cases hlt:i<xs.length
  ·obtain⟨g,off,ea,_,x0⟩:=(h.below hb).at hlt
   obtain⟨g2,off2,ea2,_,y0⟩:=(h2.below hb).at hlt
   subst ea
   subst ea2
   have hil:(i:Int)<(xs.length:Int):=by omega
   obtain⟨x,ex⟩:∃ x,xs.getD i 0=x:=⟨_,rfl⟩
   rw[ex] at x0 y0
   have hne:(x != x)=false:=by simp
   clear h h2 ex
   go_wp2_with fail
   go_quiet (fail)
   have hbq:Below w.heap.size w (wo.drewN nq):=⟨hb.os,hb.tape,hb.output,hb.size,hb.block⟩
   go_wp2_with fail
   go_roundw
   case rel=>exact⟨i+1,by omega,by go_num,hbq⟩
   case measure=>simp[intOf];omega
  ·go_wp2_with fail
   go_ret
   exact⟨rfl,hb⟩
end Sp
namespace Sp
variable{aLt:Nat->Func->Func}
open Go.RowKit
theorem zpL:((SqG.prog aLt).info? 3).map (fun i=>(i.zero,i.size,i.bytes))=some (some (.int .i64 0),1,8):=by kernel_rfl
theorem zkS(n:Nat)(hn:n<=1048576)(w:World):(Instr.makeSlice 25 (.int .i64 (n:Int)) (.int .i64 (n:Int))).run (SqG.prog aLt) w=.ok (.slice (some ⟨w.heap.size,0,none⟩) n n) (w.alloc (.cells (madeCells #[.int .i64 0] n) 3)):=by
 obtain⟨i0,hi,iz0,iz1,iz2⟩:=info_parts (zpL (aLt:=aLt))
 have:=run_make (P:=(SqG.prog aLt)) w 25 3 i0 (.int .i64 0) SqG.underlying25 hi iz0 .i64 .i64 (n:Int) (n:Int) (by omega) (by omega) (by rw[iz2];omega) (by omega)
 rw[iz1] at this
 simpa [Value.cells] using this
end Sp
section
open Go Go.Conc Go.ConcN Go.RowKit Go.Conc.Lib Go.ConcR.Gen Go.ConcN.Gen
open Go.ConcR (KK wgBlock WgAt stA smA rd wr mk Payload Aside2 DC0)
instance SqP.twin:zaB SqP.prog Tryz.prog:=Sq.okP.twin3
instance SqP.self:zaB SqP.prog SqP.prog:=Sq.okP.self
instance SqN.twin:zaB SqN.prog Tryz.prog:=Sq.okN.twin3
instance SqN.self:zaB SqN.prog SqN.prog:=Sq.okN.self
theorem SqP.whole:Whole SqP.prog:=Sq.okP.whole Sq.ckP
theorem SqN.whole:Whole SqN.prog:=Sq.okN.whole Sq.ckN
theorem SqP.bodies:Bodies SqP.prog Tryz.prog (fun i=>Sq.X i=true):=Sq.okP.bodies Sq.ckP
theorem SqN.bodies:Bodies SqN.prog Tryz.prog (fun _=>false=true):=Sq.okN.bodies Sq.ckN
def sF(W H:Nat)(i:Nat):Nat:=if i=0 then 0 else if i=1 then W else if i=2 then W+H else W+H+W
def sE(W H:Nat)(i:Nat):Nat:=if i=0 then W else if i=1 then W+H else if i=2 then W+H+W else W+H+W+H
theorem ziZ(W H:Nat):Rng 4 (sF W H) (sE W H):=by
 intro i i' k h1 h2 h3 h4 h5 h6
 rcases (show i=0\/i=1\/i=2\/i=3 by omega) with rfl|rfl|rfl|rfl <;> rcases (show i'=0\/i'=1\/i'=2\/i'=3 by omega) with rfl|rfl|rfl|rfl <;> first
  | rfl
  | (exfalso;simp[sF,sE] at h3 h4 h5 h6;omega)
  | (exfalso;simp[sF,sE] at h3 h4 h6;omega)
  | (exfalso;simp[sF,sE] at h4 h5 h6;omega)
section
variable{Goal:Machine->Trace->Prop}{Shun:Nat->Prop}{c:Frame}{cs:List Frame}
set_option maxRecDepth 100000 in
theorem zqf(hG:za9 Tryz.prog Goal){W H:Nat}{cap:Nat}(hok:Sp.okG (W:Int) gs=true)(hW:1<=W/\W<=5)(hH:1<=H/\H<=5)(el:gs.length=W * H)(hHd:gs.length / W=H)(hHI:(gs.length:Int) / (W:Int)=(H:Int))(hl0:∀ p∈l0,Kc p.1)(hcl:∀ w,Hp l0 w->Closed Kc w)(hKl:∀ c,Kc c->∃ p∈l0,p.1=c)(hga:zao (zcu Kc) (.slice ga gs.length cap) (.slice ga gs.length cap))(hC:∀ w,Hp l0 w->∀ τ d,Sp.zak (w.frz.tp τ d) ga gs)(w:World)(hp0:Hp l0 w)(hKc:∀ c,Kc c->c<w.heap.size/\¬ Shun c)(hfin:∀(u:World) (bo:Nat),zb6 (fun e=>e<w.heap.size/\¬ Shun e) w u->w.heap.size<=bo->u.heap[bo]?=some (Sp.zfd (W:Int) gs (2 * (W+H)))->∀ Shun':Nat->Prop,(∀ e,Shun' e->Shun e\/w.heap.size<=e)->¬ Shun' bo->zar Tryz.prog Goal Shun' (fun _=>False) (G (c.finish (.slice (some ⟨bo,0,none⟩) (2 * (W+H)) (2 * (W+H)))) cs) u) :
  zar Tryz.prog Goal Shun (fun _=>False) (G (Frame.enter Tryz.prog 84 #[.agg #[.int .i64 (W:Int),.slice ga gs.length cap],.func (.func 66) #[] #[]] .normal) (c::cs)) w:=by
 haveI:Payload:=⟨0⟩
 obtain⟨W1,W5⟩:=hW
 obtain⟨H1,H5⟩:=hH
 have hn25:gs.length<=25:=by rw[el];exact Nat.le_trans (Nat.mul_le_mul W5 H5) (by omega)
 have hM:Sp.zb1 (W:Int) gs=((2 * (W+H):Nat):Int):=by rw[Sp.zcD hok hHI];omega
 have hside:Sp.zbL (W:Int) (H:Int) (gs.length:Int)=#[.int .i64 ((sF W H 0:Nat):Int),.int .i64 (W:Int),.int .i64 0,.int .i64 1,.int .i64 2,.int .i64 0,.int .i64 ((sF W H 1:Nat):Int),.int .i64 (H:Int),.int .i64 ((W:Int) - 1),.int .i64 (W:Int),.int .i64 3,.int .i64 1,.int .i64 ((sF W H 2:Nat):Int),.int .i64 (W:Int),.int .i64 ((gs.length:Int) - 1),.int .i64 (-1),.int .i64 0,.int .i64 2,.int .i64 ((sF W H 3:Nat):Int),.int .i64 (H:Int),.int .i64 ((gs.length:Int) - 1 - (W:Int)+1),.int .i64 (-(W:Int)),.int .i64 1,.int .i64 3]:=by
  simp[Sp.zbL,sF]
 have hhas:∀(f m s o i u:Int),0<=f/\f<=100->0<=m/\m<=100->∀(k:Nat) (w:World),Calls SqN.prog 115 #[.agg #[.int .i64 f,.int .i64 m,.int .i64 s,.int .i64 o,.int .i64 i,.int .i64 u],.int .i64 k] w fun e _=>e=.returned (.bool (decide (f<=k/\(k:Int)<f+m))) :=
  fun f m s o i u h1 h2 k w=>(Sp.zez f m s o i u k h1 h2 _ rfl w).mono fun e w' h=>h.1
 refine zl9 (L:=SqN.prog) (X:=fun _=>false=true) (f0:=sF W H) (e0:=sE W H) (rows:=fun k=>Sp.za3 (W:Int) gs (k:Int)) (many:=2 * (W+H)) hG SqN.whole SqN.bodies (fun _ h=>by cases h) SqN.func71 (fun h=>by cases h) SqN.func85 (fun h=>by cases h) SqN.func86 (fun h=>by cases h) hl0 hcl hga
  (fun w hp τ d=>((Sp.zaw (W:Int) ga cap gs _ (hC w hp τ d) (by omega)).mono fun e w' h=>by rw[h.1,hok]))
  (fun w hp τ d=>((Sp.zcY (W:Int) ga cap gs _ (hC w hp τ d) (by omega)).mono fun e w' h=>by rw[h.1,hM]))
  (fun w hp τ d=>((Sp.zb4 W H ga gs.length cap _ ⟨W1,W5⟩ ⟨H1,H5⟩ hn25 hHd).mono fun e w' h=>by rw[h.1,hside]))
  SqN.func115 (fun h=>by cases h) SqN.func66 Tryz.func66 rfl rfl (fun h=>by cases h) (by kernel_rfl) ?_ ?_ hKl ?_ ?_ ?_ ?_ ?_ ?_ ?_ ?_ ?_ ?_ ?_ ?_ ?_
  (fun k hk w hp τ d=>((Sp.zcC (W:Int) ga cap gs _ (hC w hp τ d) (by omega) (k:Int)).mono fun e w' h=>h.1)) ?_ (by omega) w hp0 hKc hfin
 ·exact ziZ W H
 ·simp[sumTo,sF,sE];omega
 ·simp[sF,sE]
 ·omega
 ·exact hhas _ _ _ _ _ _ (by simp[sF]) (by omega)
 ·simp[sF,sE]
 ·omega
 ·exact hhas _ _ _ _ _ _ (by simp[sF];omega) (by omega)
 ·simp[sF,sE]
 ·omega
 ·exact hhas _ _ _ _ _ _ (by simp[sF];omega) (by omega)
 ·simp[sF,sE]
 ·omega
 ·exact hhas _ _ _ _ _ _ (by simp[sF];omega) (by omega)
 ·intro j hj
  unfold sE
  split <;> try omega
  split <;> try omega
  split <;> omega
 ·intro k hk
  by_cases h1:k<W
  ·exact⟨0,by omega,by simp[sF],by simp[sE];omega⟩
  ·by_cases h2:k<W+H
   ·exact⟨1,by omega,by simp[sF];omega,by simp[sE];omega⟩
   ·by_cases h3:k<W+H+W
    ·exact⟨2,by omega,by simp[sF];omega,by simp[sE];omega⟩
    ·exact⟨3,by omega,by simp[sF];omega,by simp[sE];omega⟩
end
theorem zkQ{R:BR}{c:Array Value}(h:∀ i (h:i<c.size),∃ n,c[i]=.int .i64 n):zaz R c c:=⟨rfl,fun i h1 _=>by
 obtain⟨n,e⟩:=h i h1
 rw[e]
 exact .int _ _⟩
