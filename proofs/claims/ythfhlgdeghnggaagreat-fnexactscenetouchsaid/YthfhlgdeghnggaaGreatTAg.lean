/- Part. -/
import Derived.Conc.TokenWalk
import Derived.Test.YthfhlgdeghnggaaGreatTAf
set_option maxHeartbeats 4000000
namespace Go.Proofs.YthfhlgdeghnggaaGreat
variable{X:FuncId->Prop}{l0:List (Nat × Obj)}{Snd:Nat->(Nat->Prop)->Value->World->Prop}{e0 f0:Nat->Nat}{K Kc S:Nat->Prop}{x:Operand}{ga:Option Addr}
section
open Go Go.Conc Go.ConcN Go.RowKit Go.Conc.Lib Go.ConcR.Gen Go.ConcN.Gen
open Go.ConcR (KK wgBlock WgAt stA smA rd wr mk Payload Aside2 DC0)
noncomputable abbrev zrF:Array Oper:=match zgV with|.seq (.region _ o _) _=>o|_=>#[]
noncomputable abbrev zof:Code:=match zgV with|.seq _ c=>c|_=>.skip
section
variable(Wg ch:Nat)(B:Nat->Prop)(Q:World->Prop)(l:List (Nat × Obj))(gV rV:Value)(many:Int)(bg br bc:Nat)(c:Frame)(cs:List Frame)(sV:Value)
def zdN:(Nat->Prop)->St:=fun K S g w=>∃ v9 v23 v24 v25 v26:Value,zlp zoZ Wg ch (fun c=>B c\/∃ p∈l,p.1=c) (zjn Q l (fun _=>False)) ((base 84).at ⟨#[gV,rV,.pointer (some ⟨bg,0,none⟩),.pointer (some ⟨br,0,none⟩),.slice none 0 0,.int .i64 many,.pointer (some ⟨bc,0,none⟩),.pointer (some ⟨Wg,0,none⟩),undef,v9,undef,undef,gV,.bool true,.bool false,gV,.int .i64 many,.int .i64 many,.chan (some ch),gV,sV,.int .i64 4,.bool false,v23,v24,v25,v26,undef,undef,undef,undef,undef,undef,undef,undef,undef,undef,undef,undef,undef,undef,undef],[]⟩ [.inRegion zrF [0],.code zof]) (c::cs) K S g w
def zsc:(Nat->Prop)->St:=fun K S g w=>∃ v9 v23 v24 v25 v26:Value,zpa Tryz.prog (fun c=>B c\/∃ p∈l,p.1=c) (zjn Q l (fun _=>False)) (G ((base 84).at ⟨#[gV,rV,.pointer (some ⟨bg,0,none⟩),.pointer (some ⟨br,0,none⟩),.slice none 0 0,.int .i64 many,.pointer (some ⟨bc,0,none⟩),.pointer (some ⟨Wg,0,none⟩),undef,v9,undef,undef,gV,.bool true,.bool false,gV,.int .i64 many,.int .i64 many,.chan (some ch),gV,sV,.int .i64 4,.bool false,v23,v24,v25,v26,.tuple #[],undef,undef,undef,undef,undef,undef,undef,undef,undef,undef,undef,undef,undef,undef],[]⟩ [.inRegion zrF [],.code zof]) (c::cs)) K S g w
end
section
variable{Wg ch:Nat}{B:Nat->Prop}{Q:World->Prop}{l:List (Nat × Obj)}{gV rV:Value}{many:Int}{bg br bc:Nat}{c:Frame}{cs:List Frame}{sV:Value}
theorem zhj:∀ K S g w,zdN Wg ch B Q l gV rV many bg br bc c cs sV K S g w->g.status=.running:=by
 rintro K S g w ⟨v9,v23,v24,v25,v26,h⟩
 exact zdR K S g w h
theorem zjs(hQ:zhd B Q)(hB:¬ (B Wg\/∃ p∈l,p.1=Wg)):∀ K S g w,zdN Wg ch B Q l gV rV many bg br bc c cs sV K S g w->WX Tryz.prog 134 Wg ch K (MW1 Tryz.prog 134 Wg ch (zsc Wg ch B Q l gV rV many bg br bc c cs sV) (zdN Wg ch B Q l gV rV many bg br bc c cs sV) K) S g w:=by
 rintro K S g w ⟨v9,v23,v24,v25,v26,h⟩
 exact zbI (fun _ _ _ x=>zkW (fun _ _ _ _ x=>⟨_,_,_,_,_,x⟩) (fun _ _ _ _ x=>⟨_,_,_,_,_,x⟩) x) (zhb zjg (zdh hQ) hB K S g w h)
set_option maxRecDepth 100000 in
theorem zrJ(hQ:zhd B Q)(hBK:∀ c,B c->K c)(v9 v22 v23 v24 v25 v26:Value):zaE Tryz.prog true (zan 134 Wg ch) (ExE Wg true) (fun _ S g w=>MKd Tryz.prog 134 Wg ch (zdN Wg ch B Q l gV rV many bg br bc c cs sV) K S g w) (fun _ _ _ _=>False) ch K Q l 0 S
  (zo5 gV rV sV many 4 bg br bc Wg ch c cs v9 v22 v23 v24 v25 v26):=by
 simp only[zo5,zsM,zgV,Tryz.f84]
 refine zaE.sq ?_
 refine zaE.rg ?_
 simp only[List.size_toArray,List.length_cons,List.length_nil,Nat.zero_add,List.range,List.range.loop]
 refine zaE.val rfl rfl (by decide) (v:=.bool false) (fun w hp=>by go_simp) (fun _ w hp e he=>by simp[go_sem] at he) ?_
 walk_nrm
 refine zaE.re ?_
 refine zaE.sq ?_
 refine zaE.ctl rfl (fun _=>stepG_cond (t:=false) rfl) ?_
 simp only[Bool.false_eq_true,↓reduceIte]
 refine zaE.ctl rfl (fun _=>stepG_exit rfl) ?_
 refine zaE.sq ?_
 refine zaE.rg ?_
 simp only[List.size_toArray,List.length_cons,List.length_nil,Nat.zero_add,List.range,List.range.loop]
 refine zaE.enter rfl rfl (by decide) (fun w=>run_call_body rfl Tryz.func91 rfl rfl) (fun w=>events_call_body rfl Tryz.func91 rfl rfl _) ?_
 rw[enter_at _ Tryz.func91 rfl]
 walk_nrmf Tryz.f91
 intro hl w hp hL hq hlt
 have hm:=zgp (K:=K) (S:=S) (b₀:=base 84) (a₀:=⟨#[gV,rV,.pointer (some ⟨bg,0,none⟩),.pointer (some ⟨br,0,none⟩),.slice none 0 0,.int .i64 many,.pointer (some ⟨bc,0,none⟩),.pointer (some ⟨Wg,0,none⟩),undef,v9,undef,undef,gV,.bool true,.bool false,gV,.int .i64 many,.int .i64 many,.chan (some ch),gV,sV,.int .i64 4,.bool false,v23,v24,v25,v26,undef,undef,undef,undef,undef,undef,undef,undef,undef,undef,undef,undef,undef,undef,undef],[]⟩) (ops₀:=zrF) (i₀:=0) (rest₀:=[]) (k₀:=[.code zof]) (cs:=c::cs) zjg (zdh (l:=l) (A:=fun _=>False) hQ) (fun d hd=>by rcases hd with h|⟨p,hp,rfl⟩;exact .inl (hBK _ h);exact hl p hp) w ⟨hq,hp,fun _ h=>h.elim⟩ hL
 exact zbI (fun _ _ _ h=>zkU (fun _ _ _ _ h=>⟨_,_,_,_,_,h⟩) h) hm
set_option maxRecDepth 100000 in
theorem zmD[Payload]{x0 x1 x2 x3 x4 x5 x6 x7 x8 x9 x10 x11 x12 x13 x14 x15 x16 x17 x18 x19 x20 x21 x22 x23:Int}(hsV:sV=.agg #[.int .i64 x0,.int .i64 x1,.int .i64 x2,.int .i64 x3,.int .i64 x4,.int .i64 x5,.int .i64 x6,.int .i64 x7,.int .i64 x8,.int .i64 x9,.int .i64 x10,.int .i64 x11,.int .i64 x12,.int .i64 x13,.int .i64 x14,.int .i64 x15,.int .i64 x16,.int .i64 x17,.int .i64 x18,.int .i64 x19,.int .i64 x20,.int .i64 x21,.int .i64 x22,.int .i64 x23])(hQ:zhd B Q)(hchild0:∀(K:Nat->Prop) (bs:Nat) (l':List (Nat × Obj)),(bs,.cells #[.int .i64 x0,.int .i64 x1,.int .i64 x2,.int .i64 x3,.int .i64 x4,.int .i64 x5] 136)∈l'->(∀ p∈l,p∈l')->(∀ p∈l',K p.1)->∀ w,Hp l' w->zan 134 Wg ch w->(∀ c,K c->c<w.heap.size)->∃ rc,Sit Tryz.prog 134 Wg ch Snd K (fun _=>False) (f0 0) (e0 0) ⟨7,0,0⟩ rc (born Tryz.prog (zds Wg bg bs br bc)) w)(hchild1:∀(K:Nat->Prop) (bs:Nat) (l':List (Nat × Obj)),(bs,.cells #[.int .i64 x6,.int .i64 x7,.int .i64 x8,.int .i64 x9,.int .i64 x10,.int .i64 x11] 136)∈l'->(∀ p∈l,p∈l')->(∀ p∈l',K p.1)->∀ w,Hp l' w->zan 134 Wg ch w->(∀ c,K c->c<w.heap.size)->∃ rc,Sit Tryz.prog 134 Wg ch Snd K (fun _=>False) (f0 1) (e0 1) ⟨7,0,0⟩ rc (born Tryz.prog (zds Wg bg bs br bc)) w)(hchild2:∀(K:Nat->Prop) (bs:Nat) (l':List (Nat × Obj)),(bs,.cells #[.int .i64 x12,.int .i64 x13,.int .i64 x14,.int .i64 x15,.int .i64 x16,.int .i64 x17] 136)∈l'->(∀ p∈l,p∈l')->(∀ p∈l',K p.1)->∀ w,Hp l' w->zan 134 Wg ch w->(∀ c,K c->c<w.heap.size)->∃ rc,Sit Tryz.prog 134 Wg ch Snd K (fun _=>False) (f0 2) (e0 2) ⟨7,0,0⟩ rc (born Tryz.prog (zds Wg bg bs br bc)) w)(hchild3:∀(K:Nat->Prop) (bs:Nat) (l':List (Nat × Obj)),(bs,.cells #[.int .i64 x18,.int .i64 x19,.int .i64 x20,.int .i64 x21,.int .i64 x22,.int .i64 x23] 136)∈l'->(∀ p∈l,p∈l')->(∀ p∈l',K p.1)->∀ w,Hp l' w->zan 134 Wg ch w->(∀ c,K c->c<w.heap.size)->∃ rc,Sit Tryz.prog 134 Wg ch Snd K (fun _=>False) (f0 3) (e0 3) ⟨7,0,0⟩ rc (born Tryz.prog (zds Wg bg bs br bc)) w)(hBK:∀ c,B c->K c)(hKL:∀ c,K c\/S c->¬ LvW Wg ch c)(v9 v22 v23 v24 v25 v26:Value)(hl:∀ p∈l,K p.1\/S p.1)(w:World)(hp:Hp l w)(hL:zan 134 Wg ch w)(hq:Q w)(hlt:∀ c,K c\/S c->c<w.heap.size)(j0:Nat):(zba Tryz.prog 134 Wg ch Snd (j0+4) (zaX j0 f0) (zaX j0 e0) (zdN Wg ch B Q l gV rV many bg br bc c cs sV) 4) K S (zo5 gV rV sV many 0 bg br bc Wg ch c cs v9 v22 v23 v24 v25 v26) w:=by
 have h3:∀(K S:Nat->Prop) (v9 v22 v23 v24 v25 v26:Value),(∀ c,B c->K c)->(∀ c,K c\/S c->¬ LvW Wg ch c)->zaE Tryz.prog true (zan 134 Wg ch) (ExE Wg true) (fun _ S g w=>zhf Tryz.prog 134 Wg ch Snd (zaX j0 f0) (zaX j0 e0) K (j0+3) (zba Tryz.prog 134 Wg ch Snd (j0+4) (zaX j0 f0) (zaX j0 e0) (zdN Wg ch B Q l gV rV many bg br bc c cs sV) 0) S g w) (fun _ _ _ _=>False) ch K Q l 0 S (zo5 gV rV sV many 3 bg br bc Wg ch c cs v9 v22 v23 v24 v25 v26) :=
  fun K S v9 v22 v23 v24 v25 v26 hB hK=>zhM (St1:=(fun K=>MKd Tryz.prog 134 Wg ch (zdN Wg ch B Q l gV rV many bg br bc c cs sV) K)) (jn:=j0+3) hQ (by decide) (by decide) (fun w=>by rw[hsV];exact(by kernel_rfl)) (fun w es=>by rw[hsV];exact(by kernel_rfl)) (fun K bs l' a1 a2 a3 w a4 a5 a6=>by rw[zaG,zaG];exact hchild3 K bs l' a1 a2 a3 w a4 a5 a6) (fun K v9 v22 v23 v24 v25 v26 hB _=>zrJ hQ hB v9 v22 v23 v24 v25 v26) hB hK v9 v22 v23 v24 v25 v26
 have h2:∀(K S:Nat->Prop) (v9 v22 v23 v24 v25 v26:Value),(∀ c,B c->K c)->(∀ c,K c\/S c->¬ LvW Wg ch c)->zaE Tryz.prog true (zan 134 Wg ch) (ExE Wg true) (fun _ S g w=>zhf Tryz.prog 134 Wg ch Snd (zaX j0 f0) (zaX j0 e0) K (j0+2) (zba Tryz.prog 134 Wg ch Snd (j0+4) (zaX j0 f0) (zaX j0 e0) (zdN Wg ch B Q l gV rV many bg br bc c cs sV) 1) S g w) (fun _ _ _ _=>False) ch K Q l 0 S (zo5 gV rV sV many 2 bg br bc Wg ch c cs v9 v22 v23 v24 v25 v26) :=
  fun K S v9 v22 v23 v24 v25 v26 hB hK=>zhM (St1:=(fun K=>zhf Tryz.prog 134 Wg ch Snd (zaX j0 f0) (zaX j0 e0) K (j0+3) (zba Tryz.prog 134 Wg ch Snd (j0+4) (zaX j0 f0) (zaX j0 e0) (zdN Wg ch B Q l gV rV many bg br bc c cs sV) 0))) (jn:=j0+2) hQ (by decide) (by decide) (fun w=>by rw[hsV];exact(by kernel_rfl)) (fun w es=>by rw[hsV];exact(by kernel_rfl)) (fun K bs l' a1 a2 a3 w a4 a5 a6=>by rw[zaG,zaG];exact hchild2 K bs l' a1 a2 a3 w a4 a5 a6) (fun K v9 v22 v23 v24 v25 v26 hB hK=>h3 K (fun _=>False) v9 v22 v23 v24 v25 v26 hB (fun d hd=>hK d (hd.elim id fun x=>x.elim))) hB hK v9 v22 v23 v24 v25 v26
 have h1:∀(K S:Nat->Prop) (v9 v22 v23 v24 v25 v26:Value),(∀ c,B c->K c)->(∀ c,K c\/S c->¬ LvW Wg ch c)->zaE Tryz.prog true (zan 134 Wg ch) (ExE Wg true) (fun _ S g w=>zhf Tryz.prog 134 Wg ch Snd (zaX j0 f0) (zaX j0 e0) K (j0+1) (zba Tryz.prog 134 Wg ch Snd (j0+4) (zaX j0 f0) (zaX j0 e0) (zdN Wg ch B Q l gV rV many bg br bc c cs sV) 2) S g w) (fun _ _ _ _=>False) ch K Q l 0 S (zo5 gV rV sV many 1 bg br bc Wg ch c cs v9 v22 v23 v24 v25 v26) :=
  fun K S v9 v22 v23 v24 v25 v26 hB hK=>zhM (St1:=(fun K=>zhf Tryz.prog 134 Wg ch Snd (zaX j0 f0) (zaX j0 e0) K (j0+2) (zba Tryz.prog 134 Wg ch Snd (j0+4) (zaX j0 f0) (zaX j0 e0) (zdN Wg ch B Q l gV rV many bg br bc c cs sV) 1))) (jn:=j0+1) hQ (by decide) (by decide) (fun w=>by rw[hsV];exact(by kernel_rfl)) (fun w es=>by rw[hsV];exact(by kernel_rfl)) (fun K bs l' a1 a2 a3 w a4 a5 a6=>by rw[zaG,zaG];exact hchild1 K bs l' a1 a2 a3 w a4 a5 a6) (fun K v9 v22 v23 v24 v25 v26 hB hK=>h2 K (fun _=>False) v9 v22 v23 v24 v25 v26 hB (fun d hd=>hK d (hd.elim id fun x=>x.elim))) hB hK v9 v22 v23 v24 v25 v26
 have h0:∀(K S:Nat->Prop) (v9 v22 v23 v24 v25 v26:Value),(∀ c,B c->K c)->(∀ c,K c\/S c->¬ LvW Wg ch c)->zaE Tryz.prog true (zan 134 Wg ch) (ExE Wg true) (fun _ S g w=>zhf Tryz.prog 134 Wg ch Snd (zaX j0 f0) (zaX j0 e0) K (j0+0) (zba Tryz.prog 134 Wg ch Snd (j0+4) (zaX j0 f0) (zaX j0 e0) (zdN Wg ch B Q l gV rV many bg br bc c cs sV) 3) S g w) (fun _ _ _ _=>False) ch K Q l 0 S (zo5 gV rV sV many 0 bg br bc Wg ch c cs v9 v22 v23 v24 v25 v26) :=
  fun K S v9 v22 v23 v24 v25 v26 hB hK=>zhM (St1:=(fun K=>zhf Tryz.prog 134 Wg ch Snd (zaX j0 f0) (zaX j0 e0) K (j0+1) (zba Tryz.prog 134 Wg ch Snd (j0+4) (zaX j0 f0) (zaX j0 e0) (zdN Wg ch B Q l gV rV many bg br bc c cs sV) 2))) (jn:=j0+0) hQ (by decide) (by decide) (fun w=>by rw[hsV];exact(by kernel_rfl)) (fun w es=>by rw[hsV];exact(by kernel_rfl)) (fun K bs l' a1 a2 a3 w a4 a5 a6=>by rw[zaG,zaG];exact hchild0 K bs l' a1 a2 a3 w a4 a5 a6) (fun K v9 v22 v23 v24 v25 v26 hB hK=>h1 K (fun _=>False) v9 v22 v23 v24 v25 v26 hB (fun d hd=>hK d (hd.elim id fun x=>x.elim))) hB hK v9 v22 v23 v24 v25 v26
 exact h0 K S v9 v22 v23 v24 v25 v26 hBK hKL hl w hp hL hq hlt
end
noncomputable abbrev lp2:Code:=match zgV with|.seq _ (.seq _ (.seq _ (.seq (.seq _ (.block _ (.loop c))) _)))=>c|_=>.skip
noncomputable abbrev zq7:Code:=match zgV with|.seq _ (.seq _ (.seq _ (.seq (.seq _ (.block _ (.loop _))) c)))=>c|_=>.skip
def zb6(B:Nat->Prop)(w0 u:World):Prop:=(∀ e,B e->u.heap[e]?=w0.heap[e]?)/\u.tape=w0.tape/\u.os=w0.os/\u.output=w0.output/\w0.heap.size<=u.heap.size
theorem zfh{a:Act}{o:Oper}{w:World}{ch:Nat}(hop:o.op=.recv 156 x true)(hx:a.eval x=.chan (some ch)):(execOp a.eval o).run Tryz.prog w=.ok (.comm #[rcase ch (.agg #[.int .i64 0,.int .i64 0])] true (.recv true)) w/\(execOp a.eval o).events Tryz.prog w #[]=#[]:=by
 constructor
 ·unfold execOp
  simp[hop,hx,rcase]
 ·unfold execOp
  simp[hop,hx]
theorem zkO:(Tryz.prog.info? 159).map (·.size)=some 2:=by kernel_rfl
theorem zkN:(Tryz.prog.info? 3).map (·.size)=some 1:=by kernel_rfl
section
variable{Goal:Machine->Trace->Prop}{Shun:Nat->Prop}{c:Frame}{cs:List Frame}{B:Nat->Prop}{w0:World}{ch bo many:Nat}{rows:Nat->Int}
set_option maxRecDepth 100000 in
theorem collect(hG:za9 Tryz.prog Goal)(hB0:∀ e,B e->e<w0.heap.size)(hbo:w0.heap.size<=bo)(hch:w0.heap.size<=ch)(hne:bo≠ch)(hSh:¬ Shun bo)(hLa:∀(w:World) (o:Obj),(fun _:World=>True) w->(fun _:World=>True) (w.alloc o):=fun _ _ h=>h)(hfin:∀ u',zb6 B w0 u'->u'.heap[bo]?=some (.cells (Array.ofFn fun k:Fin many=>.int .i64 (rows k)) 3)->zar Tryz.prog Goal Shun (fun _=>False) (G (c.finish (.slice (some ⟨bo,0,none⟩) many many)) cs) u') :
  ∀(buf:List Value) (arr:Array Value) (cap s r:Nat) (tm:Bool) (u0 u1 u2 u3 u4 u5 u6 u7 u8 u9 u11 u12 u13 u14 u15 u16 u17 u18 u19 u20 u21 u22 u23 u24 u25 u26 u27 u28 u29 u30 u32 u33 u34 u35 u36 u37 u38 u39 u40 u41:Value) (u:World),(∀ x∈buf,∃ k:Nat,k<many/\x=.agg #[.int .i64 k,.int .i64 (rows k)])->arr.size=many->(∀ k:Nat,k<many->arr[k]?=some (.int .i64 (rows k))\/(.agg #[.int .i64 k,.int .i64 (rows k)]:Value)∈buf) ->
   u.heap[ch]?=some (.chan cap buf.toArray true s r tm)->u.heap[bo]?=some (.cells arr 3)->zb6 B w0 u->zar Tryz.prog Goal Shun (fun _=>False) (G ((base 84).at ⟨#[u0,u1,u2,u3,u4,u5,u6,u7,u8,u9,.slice (some ⟨bo,0,none⟩) many many,u11,u12,u13,u14,u15,u16,u17,u18,u19,u20,u21,u22,u23,u24,u25,u26,u27,u28,u29,u30,.chan (some ch),u32,u33,u34,u35,u36,u37,u38,u39,u40,u41],[]⟩ [.code lp2,.inLoop lp2,.inBlock 2,.code zq7]) (c::cs)) u:=by
 intro buf
 induction buf with
 | nil =>
  intro arr cap s r tm u0 u1 u2 u3 u4 u5 u6 u7 u8 u9 u11 u12 u13 u14 u15 u16 u17 u18 u19 u20 u21 u22 u23 u24 u25 u26 u27 u28 u29 u30 u32 u33 u34 u35 u36 u37 u38 u39 u40 u41 u hbuf hsz hcov hc ho hk
  simp only[lp2,zq7]
  refine zar.way hG (ch:=0) (K:=fun _=>False) (S:=fun e=>e=bo) (l:=[(bo,.cells arr 3)]) (lx:=[(ch,.chan cap #[] true s r tm)]) (fun p h=>by simp at h;subst h;exact ho) (fun p h=>by simp at h;subst h;exact .inr rfl) (fun p h=>by simp at h;subst h;exact hc) (fun p h e=>by simp at h;subst h;exact hne e.symm) (fun _ h=>h.elim) (fun e he=>?_) ?_
  ·rcases he with he|rfl
   ·exact he.elim
   ·exact⟨(gei ho).1,hSh,fun h=>h⟩
  refine zag.sq ?_
  refine zag.rg ?_
  simp only[List.size_toArray,List.length_cons,List.length_nil,Nat.reduceAdd,Nat.zero_add,List.range,List.range.loop]
  refine zag.stop fun hl1 w1 hp1 _ hlt1=>?_
  intro hsz1 hnew1 hx1 hKS1 _ hkept1 ht1 ho1 hu1
  refine zar.recvNone hG rfl (hx1.at (c:=ch) mcs) (fun d=>by rw[stepG_comm rfl rfl (by decide) (zfh rfl rfl).1];unfold listed;rw[(zfh rfl rfl).2,seen_none]) fun d=>?_
  rw[zbN]
  simp only[commResult]
  walk_nrm
  refine zar.way hG (ch:=0) (K:=fun _=>False) (S:=fun e=>e=bo) (l:=[(bo,.cells arr 3)]) (lx:=[]) (hp1.on d) (fun p h=>by simp at h;subst h;exact .inr rfl) (fun _ h=>by cases h) (fun _ h=>by cases h) (fun _ h=>h.elim) (fun e he=>?_) ?_
  ·rcases he with he|rfl
   ·exact he.elim
   ·exact⟨hlt1 _ (.inr rfl),hSh,fun h=>h⟩
  refine zag.val rfl rfl (by decide) (v:=.bool false) (fun w hp=>by go_simp) (fun _ w hp e he=>by simp[go_sem] at he) ?_
  walk_nrm
  refine zag.re ?_
  refine zag.sq ?_
  refine zag.ctl rfl (fun _=>stepG_cond (t:=false) rfl) ?_
  simp only[Bool.false_eq_true,↓reduceIte]
  refine zag.ctl rfl (fun _=>stepG_exit rfl) ?_
  refine zag.sq ?_
  refine zag.rg ?_
  simp only[List.size_toArray,List.length_cons,List.length_nil,Nat.reduceAdd,Nat.zero_add,List.range,List.range.loop]
  refine zag.val rfl rfl (by decide) (v:=.slice (some ⟨bo,0,none⟩) many many) (fun w hp=>by go_simp) (fun _ w hp e he=>by simp[go_sem] at he) ?_
  walk_nrm
  refine zag.val rfl rfl (by decide) (v:=.slice (some ⟨bo,0,none⟩) many many) (fun w hp=>by go_simp) (fun _ w hp e he=>by simp[go_sem] at he) ?_
  walk_nrm
  refine zag.re ?_
  refine zag.ctl rfl (fun _=>stepG_ret') ?_
  refine zag.ctl (g':=G (c.finish (.slice (some ⟨bo,0,none⟩) many many)) cs) rfl (fun w=>by rw[stepG_leave rfl rfl Tryz.func84 (results_tmp Tryz.results84 _ _ w) (events_results_tmp Tryz.results84 _ _)];rfl) ?_
  refine zag.stop fun hl3 w3 hp3 _ hlt3=>?_
  intro hsz3 hnew3 hx3 hKS3 _ hkept3 ht3 ho3 hu3
  refine hfin w3 ?_ ?_
  ·obtain⟨a1,a2,a3,a4,a5⟩:=hk
   have huo:bo<u.heap.size:=(gei ho).1
   have hat:(w1.at d).heap.size=w1.heap.size:=rfl
   refine⟨fun e he=>?_,by rw[ht3];exact ht1.trans a2,by rw[ho3];exact ho1.trans a3,by rw[hu3];exact hu1.trans a4,by omega⟩
   have:=hB0 e he
   rw[hkept3 e (by omega) (by omega)]
   exact(hkept1 e (by omega) (by omega)).trans (a1 e he)
  ·rw[hp3.at mcs]
   refine congrArg (fun x=>some (Obj.cells x 3)) (Array.ext (by simp[hsz]) fun j h1 h2=>?_)
   have:=(hcov j (by omega)).resolve_right (by simp)
   rw[Array.getElem?_eq_getElem h1] at this
   simpa using this
 | cons x buf ih =>
  intro arr cap s r tm u0 u1 u2 u3 u4 u5 u6 u7 u8 u9 u11 u12 u13 u14 u15 u16 u17 u18 u19 u20 u21 u22 u23 u24 u25 u26 u27 u28 u29 u30 u32 u33 u34 u35 u36 u37 u38 u39 u40 u41 u hbuf hsz hcov hc ho hk
  obtain⟨k,hkm,rfl⟩:=hbuf x mcs
  simp only[lp2]
  refine zar.way hG (ch:=0) (K:=fun _=>False) (S:=fun e=>e=bo) (l:=[(bo,.cells arr 3)]) (lx:=[(ch,.chan cap (.agg #[.int .i64 k,.int .i64 (rows k)]::buf).toArray true s r tm)]) (fun p h=>by simp at h;subst h;exact ho) (fun p h=>by simp at h;subst h;exact .inr rfl) (fun p h=>by simp at h;subst h;exact hc) (fun p h e=>by simp at h;subst h;exact hne e.symm) (fun _ h=>h.elim) (fun e he=>?_) ?_
  ·rcases he with he|rfl
   ·exact he.elim
   ·exact⟨(gei ho).1,hSh,fun h=>h⟩
  refine zag.sq ?_
  refine zag.rg ?_
  simp only[List.size_toArray,List.length_cons,List.length_nil,Nat.reduceAdd,Nat.zero_add,List.range,List.range.loop]
  refine zag.stop fun hl1 w1 hp1 _ hlt1=>?_
  intro hsz1 hnew1 hx1 hKS1 _ hkept1 ht1 ho1 hu1
  refine zar.recv hG rfl (hx1.at (c:=ch) mcs) (by simp) (fun d=>by rw[stepG_comm rfl rfl (by decide) (zfh rfl rfl).1];unfold listed;rw[(zfh rfl rfl).2,seen_none]) fun d=>?_
  have e1:((.agg #[.int .i64 k,.int .i64 (rows k)]:Value)::buf).toArray.getD 0 undef=.agg #[.int .i64 k,.int .i64 (rows k)]:=by simp
  have e2:((.agg #[.int .i64 k,.int .i64 (rows k)]:Value)::buf).toArray.extract 1 ((.agg #[.int .i64 k,.int .i64 (rows k)]:Value)::buf).toArray.size=buf.toArray:=by simp
  rw[e1,e2]
  have hchl:ch<w1.heap.size:=(gei (hx1.at (c:=ch) mcs)).1
  obtain⟨w2,hw2⟩:∃ w2,w2=(w1.at d).setChan ch cap buf.toArray true s (r+1) tm:=⟨_,rfl⟩
  have hc2:w2.heap[ch]?=some (.chan cap buf.toArray true s (r+1) tm):=by rw[hw2];simp[World.setChan,World.at,hchl]
  have hk2:∀ e,e≠ch->w2.heap[e]?=w1.heap[e]?:=fun e he=>by rw[hw2];exact za0 (w1.at d) cap buf.toArray true s (r+1) tm he
  have hs2:w2.heap.size=w1.heap.size/\w2.tape=w1.tape/\w2.os=w1.os/\w2.output=w1.output:=by rw[hw2];exact⟨by simp[World.setChan,World.at],rfl,rfl,rfl⟩
  rw[<- hw2]
  clear hw2 e1 e2
  have hbo2:w2.heap[bo]?=some (.cells arr 3):=(hk2 bo hne).trans (hp1.at mcs)
  have hbol:bo<w2.heap.size:=(gei hbo2).1
  rw[zbN]
  simp only[commResult]
  walk_nrm
  refine zar.way hG (ch:=0) (K:=fun _=>False) (S:=fun e=>e=bo) (l:=[(bo,.cells arr 3)]) (lx:=[(ch,.chan cap buf.toArray true s (r+1) tm)]) (fun p h=>by simp at h;subst h;exact hbo2) (fun p h=>by simp at h;subst h;exact .inr rfl) (fun p h=>by simp at h;subst h;exact hc2) (fun p h e=>by simp at h;subst h;exact hne e.symm) (fun _ h=>h.elim) (fun e he=>?_) ?_
  ·rcases he with he|rfl
   ·exact he.elim
   ·exact⟨hbol,hSh,fun h=>h⟩
  refine zag.val rfl rfl (by decide) (v:=.bool true) (fun w hp=>by go_simp) (fun _ w hp e he=>by simp[go_sem] at he) ?_
  walk_nrm
  refine zag.re ?_
  refine zag.sq ?_
  refine zag.ctl rfl (fun _=>stepG_cond (t:=true) rfl) ?_
  simp only[↓reduceIte]
  refine zag.ctl rfl (fun _=>stepG_skip) ?_
  refine zag.ctl rfl (fun _=>stepG_block) ?_
  refine zag.sq ?_
  refine zag.rg ?_
  simp only[List.size_toArray,List.length_cons,List.length_nil,Nat.reduceAdd,Nat.zero_add,List.range,List.range.loop]
  refine zag.val rfl rfl (by decide) (v:=.agg #[.int .i64 k,.int .i64 (rows k)]) (fun w hp=>by go_simp) (fun _ w hp e he=>by simp[go_sem] at he) ?_
  walk_nrm
  refine zag.new hLa rfl rfl (by decide) (V:=fun c=>.pointer (some ⟨c,0,none⟩)) (obj:=.cells #[.int .i64 0,.int .i64 0] 159) (fun w hp=>by go_simp) (fun _ w hp e he=>by simp[go_sem] at he) fun b11 hK_b11 hS_b11=>?_
  walk_nrm
  refine zag.put (l':=[(b11,.cells #[.int .i64 k,.int .i64 (rows k)] 159),(bo,.cells arr 3)]) (c:=b11) (obj:=.cells #[.int .i64 k,.int .i64 (rows k)] 159) rfl rfl (by decide) (.inr rfl) (fun _ _ _ h=>h) (fun w hp=>⟨_,zeF (ty:=159) (cells:=#[.int .i64 k,.int .i64 (rows k)]) rfl rfl rfl (hp.at mcs) zkO rfl (by simp[Value.oneCell']),(zas (hp.at mcs)).1,(zas (hp.at mcs)).2⟩) (fun _ w hp e he=>?_) (fun p hp=>?_) ?_
  ·obtain⟨q,rfl⟩:=zgL (ty:=159) (cells:=#[.int .i64 k,.int .i64 (rows k)]) rfl rfl rfl (hp.at mcs) zkO rfl (by simp[Value.oneCell']) e he
   exact Or.inl ⟨_,_,rfl,Or.inl (Or.inr rfl)⟩
  ·rcases List.mem_cons.1 hp with rfl|hp
   ·exact .inl rfl
   ·exact .inr ⟨mcm hp,fun e=>by simp at hp;subst hp;exact hS_b11 e.symm⟩
  walk_nrm
  refine zag.re ?_
  refine zag.rg ?_
  simp only[List.size_toArray,List.length_cons,List.length_nil,Nat.reduceAdd,Nat.zero_add,List.range,List.range.loop]
  refine zag.val rfl rfl (by decide) (v:=.slice (some ⟨bo,0,none⟩) many many) (fun w hp=>by go_simp) (fun _ w hp e he=>by simp[go_sem] at he) ?_
  walk_nrm
  refine zag.val rfl rfl (by decide) (v:=.pointer (some ⟨b11,0,none⟩)) (fun w hp=>by go_simp) (fun _ w hp e he=>by simp[go_sem] at he) ?_
  walk_nrm
  refine zag.val rfl rfl (by decide) (v:=.int .i64 k) (fun w hp=>?_) (fun hl w hp e he=>?_) ?_
  ·have c0:=hp.cell mcs 0 rfl
   go_simp
  ·have c0:=hp.cell mcs 0 rfl
   simp[go_sem, *] at he
   subst he
   exact zau hl mcs _
  walk_nrm
  refine zag.val rfl rfl (by decide) (v:=.pointer (some ⟨b11,1,none⟩)) (fun w hp=>by go_simp) (fun _ w hp e he=>by simp[go_sem] at he) ?_
  walk_nrm
  refine zag.val rfl rfl (by decide) (v:=.int .i64 (rows k)) (fun w hp=>?_) (fun hl w hp e he=>?_) ?_
  ·have c0:=hp.cell mcs 1 rfl
   go_simp
  ·have c0:=hp.cell mcs 1 rfl
   simp[go_sem, *] at he
   subst he
   exact zau hl mcs _
  walk_nrm
  have hk0:(0:Int)<=(k:Int):=by omega
  have hk1:(k:Int)<(many:Int):=by omega
  refine zag.val rfl rfl (by decide) (v:=.pointer (some ⟨bo,k,none⟩)) (fun w hp=>by go_simp) (fun _ w hp e he=>by simp[go_sem, *] at he) ?_
  walk_nrm
  have hka:k<arr.size:=by omega
  refine zag.put (l':=[(bo,.cells (arr.setIfInBounds k (.int .i64 (rows k))) 3)]) (c:=bo) (obj:=.cells (arr.setIfInBounds k (.int .i64 (rows k))) 3) rfl rfl (by decide) (.inl rfl) (fun _ _ _ h=>h) (fun w hp=>⟨_,zfg (ty:=3) (i:=k) rfl rfl rfl rfl rfl (hp.at (mcm mcs)) zkN hka,(zas (hp.at (mcm mcs))).1,(zas (hp.at (mcm mcs))).2⟩) (fun _ w hp e he=>?_) (fun p hp=>.inl (by simpa using hp)) ?_
  ·obtain⟨q,rfl⟩:=zhm (ty:=3) (i:=k) rfl rfl rfl rfl rfl (hp.at (mcm mcs)) zkN hka e he
   exact Or.inl ⟨_,_,rfl,Or.inl (Or.inl rfl)⟩
  walk_nrm
  refine zag.re ?_
  refine zag.ctl rfl (fun _=>stepG_inBlock) ?_
  refine zag.ctl rfl (fun _=>stepG_inLoop) ?_
  refine zag.stop fun hl3 w3 hp3 _ hlt3=>?_
  intro hsz3 hnew3 hx3 hKS3 _ hkept3 ht3 ho3 hu3
  refine ih _ cap s (r+1) tm _ _ _ _ _ _ _ _ _ _ _ _ _ _ _ _ _ _ _ _ _ _ _ _ _ _ _ _ _ _ _ _ _ _ _ _ _ _ _ _ w3 (fun x hx=>hbuf x (mcm hx)) (by simpa using hsz) (fun j hj=>?_) (hx3.at mcs) (hp3.at mcs) ?_
  ·by_cases e:j=k
   ·subst e
    exact .inl (by rw[Array.getElem?_setIfInBounds_self_of_lt hka])
   ·rw[Array.getElem?_setIfInBounds_ne (Ne.symm e)]
    refine(hcov j hj).imp id fun h=>?_
    rcases List.mem_cons.1 h with h|h
    ·exfalso;apply e;simp at h;omega
    ·exact h
  ·obtain⟨a1,a2,a3,a4,a5⟩:=hk
   have huo:bo<u.heap.size/\ch<u.heap.size:=⟨(gei ho).1,(gei hc).1⟩
   refine⟨fun e he=>?_,by rw[ht3,hs2.2.1,ht1,a2],by rw[ho3,hs2.2.2.1,ho1,a3],by rw[hu3,hs2.2.2.2,hu1,a4],by omega⟩
   have:=hB0 e he
   rw[hkept3 e (by omega) (by omega),hk2 e (by omega),hkept1 e (by omega) (by omega),a1 e he]
end
theorem zax{R:BR}(wd:Int){x:Value}(hx:zao R x x):zaz R #[.agg #[.int .i64 wd,x]] #[.agg #[.int .i64 wd,x]]:=by
 refine⟨rfl,fun i h h'=>?_⟩
 match i,h with
 | 0,_ =>
  refine .agg rfl fun j h h'=>?_
  match j,h with
  | 0,_=>exact .int _ _
  | 1,_=>exact hx
theorem zjM{R:BR}{c c':Array Value}(hs:c.size=c'.size)(hv:∀ i (h:i<c.size) (h':i<c'.size),zao R c[i] c'[i])(hc:∀ i (h:i<c.size),∃ n,c[i]=.int .i64 n):c'=c:=by
 refine Array.ext hs.symm fun i h h'=>?_
 obtain⟨n,e⟩:=hc i h'
 have:=hv i h' h
 rw[e] at this ⊢
 exact zci this
def zsW(rows:Nat->Int):Nat->(Nat->Prop)->Value->World->Prop:=fun k _ v _=>v=.agg #[.int .i64 k,.int .i64 (rows k)]
theorem zk5:Tryz.t159.bytes=16:=by kernel_rfl
theorem zis:(Tryz.prog.info? 156).map (·.size)=some 1:=by kernel_rfl
theorem zha{R:BR}{x0 x1 x2 x3 x4 x5 x6 x7 x8 x9 x10 x11 x12 x13 x14 x15 x16 x17 x18 x19 x20 x21 x22 x23:Int}{v:Value}(h:zao R (.agg #[.int .i64 x0,.int .i64 x1,.int .i64 x2,.int .i64 x3,.int .i64 x4,.int .i64 x5,.int .i64 x6,.int .i64 x7,.int .i64 x8,.int .i64 x9,.int .i64 x10,.int .i64 x11,.int .i64 x12,.int .i64 x13,.int .i64 x14,.int .i64 x15,.int .i64 x16,.int .i64 x17,.int .i64 x18,.int .i64 x19,.int .i64 x20,.int .i64 x21,.int .i64 x22,.int .i64 x23]) v):v=.agg #[.int .i64 x0,.int .i64 x1,.int .i64 x2,.int .i64 x3,.int .i64 x4,.int .i64 x5,.int .i64 x6,.int .i64 x7,.int .i64 x8,.int .i64 x9,.int .i64 x10,.int .i64 x11,.int .i64 x12,.int .i64 x13,.int .i64 x14,.int .i64 x15,.int .i64 x16,.int .i64 x17,.int .i64 x18,.int .i64 x19,.int .i64 x20,.int .i64 x21,.int .i64 x22,.int .i64 x23]:=by
 cases h with
 | agg hs hv=>exact congrArg Value.agg (zjM hs hv fun i h=>match i,h with|0,_=>⟨_,rfl⟩|1,_=>⟨_,rfl⟩|2,_=>⟨_,rfl⟩|3,_=>⟨_,rfl⟩|4,_=>⟨_,rfl⟩|5,_=>⟨_,rfl⟩|6,_=>⟨_,rfl⟩|7,_=>⟨_,rfl⟩|8,_=>⟨_,rfl⟩|9,_=>⟨_,rfl⟩|10,_=>⟨_,rfl⟩|11,_=>⟨_,rfl⟩|12,_=>⟨_,rfl⟩|13,_=>⟨_,rfl⟩|14,_=>⟨_,rfl⟩|15,_=>⟨_,rfl⟩|16,_=>⟨_,rfl⟩|17,_=>⟨_,rfl⟩|18,_=>⟨_,rfl⟩|19,_=>⟨_,rfl⟩|20,_=>⟨_,rfl⟩|21,_=>⟨_,rfl⟩|22,_=>⟨_,rfl⟩|23,_=>⟨_,rfl⟩|k+24,h=>absurd h (by simp))
theorem zkP:Tryz.t3.zero=some (.int .i64 0):=by kernel_rfl
theorem zfN:Tryz.t3.bytes=8:=by kernel_rfl
theorem zpO:Tryz.t3.size=1:=by kernel_rfl
section
variable[Payload]{L:Program}{Goal:Machine->Trace->Prop}{Shun:Nat->Prop}{c:Frame}{cs:List Frame}
set_option maxRecDepth 100000 in
theorem zl9(hG:za9 Tryz.prog Goal)[T:zaB L Tryz.prog][zaB L L](W:Whole L)(B:Bodies L Tryz.prog X)(hX:zji L X)(hf3:L.funcs[71]?=some Tryz.f71)(hx3:¬ X 71)(hf4:L.funcs[85]?=some Tryz.f85)(hx4:¬ X 85)(hf5:L.funcs[86]?=some Tryz.f86)(hx5:¬ X 86){fr:FuncId}{wd:Int}{n cap:Nat}{many:Nat}(hl0:∀ p∈l0,Kc p.1)(hcl:∀ w,Hp l0 w->Closed Kc w)(hga:zao (zcu Kc) (.slice ga n cap) (.slice ga n cap))(hok:∀ w,Hp l0 w->∀ τ d,Calls L 71 #[.agg #[.int .i64 wd,.slice ga n cap]] (w.frz.tp τ d) fun e _=>e=.returned (.bool true))(hmany:∀ w,Hp l0 w->∀ τ d,Calls L 85 #[.agg #[.int .i64 wd,.slice ga n cap]] (w.frz.tp τ d) fun e _=>e=.returned (.int .i64 many)){x1 x2 x3 x4 x5 x7 x8 x9 x10 x11 x13 x14 x15 x16 x17 x19 x20 x21 x22 x23:Int}(hsides:∀ w,Hp l0 w->∀ τ d,Calls L 86 #[.agg #[.int .i64 wd,.slice ga n cap]] (w.frz.tp τ d) fun e _=>e=.returned (.agg #[.int .i64 (f0 0:Int),.int .i64 x1,.int .i64 x2,.int .i64 x3,.int .i64 x4,.int .i64 x5,.int .i64 (f0 1:Int),.int .i64 x7,.int .i64 x8,.int .i64 x9,.int .i64 x10,.int .i64 x11,.int .i64 (f0 2:Int),.int .i64 x13,.int .i64 x14,.int .i64 x15,.int .i64 x16,.int .i64 x17,.int .i64 (f0 3:Int),.int .i64 x19,.int .i64 x20,.int .i64 x21,.int .i64 x22,.int .i64 x23])){fn:Func}(hf1:L.funcs[115]?=some Tryz.f115)(hx1:¬ X 115)(hf2:L.funcs[fr]?=some fn)(hm2:Tryz.prog.funcs[fr]?=some fn)(hb2:fn.body.isSome=true)(hn2:(fn.name == "runtime.NumGoroutine")=false)(hx2:¬ X fr)(hr2:zbM fn=true){rows:Nat->Int}(hrng:Rng 4 f0 e0)(hcap:sumTo 4 (fun i=>e0 i - f0 i)<=many)(hKl:∀ c,Kc c->∃ p∈l0,p.1=c)(hx_0:(e0 0:Int)=f0 0+x1)(hm_0:0<=x1)(hhas_0:∀(k:Nat) (w:World),Calls L 115 #[.agg #[.int .i64 (f0 0:Int),.int .i64 x1,.int .i64 x2,.int .i64 x3,.int .i64 x4,.int .i64 x5],.int .i64 k] w fun e _=>e=.returned (.bool (decide (((f0 0:Nat):Int)<=k/\(k:Int)<f0 0+x1))))(hx_1:(e0 1:Int)=f0 1+x7)(hm_1:0<=x7)(hhas_1:∀(k:Nat) (w:World),Calls L 115 #[.agg #[.int .i64 (f0 1:Int),.int .i64 x7,.int .i64 x8,.int .i64 x9,.int .i64 x10,.int .i64 x11],.int .i64 k] w fun e _=>e=.returned (.bool (decide (((f0 1:Nat):Int)<=k/\(k:Int)<f0 1+x7))))(hx_2:(e0 2:Int)=f0 2+x13)(hm_2:0<=x13)(hhas_2:∀(k:Nat) (w:World),Calls L 115 #[.agg #[.int .i64 (f0 2:Int),.int .i64 x13,.int .i64 x14,.int .i64 x15,.int .i64 x16,.int .i64 x17],.int .i64 k] w fun e _=>e=.returned (.bool (decide (((f0 2:Nat):Int)<=k/\(k:Int)<f0 2+x13))))(hx_3:(e0 3:Int)=f0 3+x19)(hm_3:0<=x19)(hhas_3:∀(k:Nat) (w:World),Calls L 115 #[.agg #[.int .i64 (f0 3:Int),.int .i64 x19,.int .i64 x20,.int .i64 x21,.int .i64 x22,.int .i64 x23],.int .i64 k] w fun e _=>e=.returned (.bool (decide (((f0 3:Nat):Int)<=k/\(k:Int)<f0 3+x19))))(he1:∀ j,j<4->e0 j<=many)(hrk:∀ k:Nat,k<many->∀ w,Hp l0 w->∀ τ d,Calls L fr #[.agg #[.int .i64 wd,.slice ga n cap],.int .i64 k] (w.frz.tp τ d) fun e _=>e=.returned (.int .i64 (rows k)))(hcover:∀ k,k<many->∃ i,i<4/\f0 i<=k/\k<e0 i)(hmn:many<=1000)(w:World)(hp0:Hp l0 w)(hKc:∀ c,Kc c->c<w.heap.size/\¬ Shun c)(hfin:∀(u:World) (bo:Nat),zb6 (fun e=>e<w.heap.size/\¬ Shun e) w u->w.heap.size<=bo->u.heap[bo]?=some (.cells (Array.ofFn fun k:Fin many=>.int .i64 (rows k)) 3)->∀ Shun':Nat->Prop,(∀ e,Shun' e->Shun e\/w.heap.size<=e)->¬ Shun' bo->zar Tryz.prog Goal Shun' (fun _=>False) (G (c.finish (.slice (some ⟨bo,0,none⟩) many many)) cs) u) :
  zar Tryz.prog Goal Shun (fun _=>False) (G (Frame.enter Tryz.prog 84 #[.agg #[.int .i64 wd,.slice ga n cap],.func (.func fr) #[] #[]] .normal) (c::cs)) w:=by
 have hLa:∀(w:World) (o:Obj),(fun _:World=>True) w->(fun _:World=>True) (w.alloc o):=fun _ _ h=>h
 refine zar.way hG (ch:=0) (K:=Kc) (S:=fun _=>False) (l:=l0) (lx:=[]) hp0 (fun p h=>.inl (hl0 p h)) (fun _ h=>by cases h) (fun _ h=>by cases h) (fun _ h=>h.elim) (fun c hc=>⟨(hKc c (hc.elim id fun x=>x.elim)).1,(hKc c (hc.elim id fun x=>x.elim)).2,fun h=>h⟩) ?_
 rw[enter_at _ Tryz.func84 rfl]
 walk_nrmf Tryz.f84
 refine zag.sq ?_
 refine zag.rg ?_
 simp only[List.size_toArray,List.length_cons,List.length_nil,Nat.reduceAdd,Nat.zero_add,List.range,List.range.loop]
 refine zag.new hLa rfl rfl (by decide) (V:=fun c=>.pointer (some ⟨c,0,none⟩)) (obj:=.cells #[.int .i64 wd,.slice ga n cap] 33) (fun w hp=>by go_simp) (fun _ w hp e he=>by simp[go_sem] at he) fun bg hK_bg hS_bg=>?_
 walk_nrm
 refine zag.new hLa rfl rfl (by decide) (V:=fun c=>.pointer (some ⟨c,0,none⟩)) (obj:=.cells #[.func (.func fr) #[] #[]] 71) (fun w hp=>by go_simp) (fun _ w hp e he=>by simp[go_sem] at he) fun br hK_br hS_br=>?_
 walk_nrm
 refine zag.val rfl rfl (by decide) (v:=.slice none 0 0) (fun w hp=>by go_simp) (fun _ w hp e he=>by simp[go_sem] at he) ?_
 walk_nrm
 refine zag.re ?_
 refine zag.sq ?_
 refine zag.sq ?_
 refine zag.rg ?_
 simp only[List.size_toArray,List.length_cons,List.length_nil,Nat.reduceAdd,Nat.zero_add,List.range,List.range.loop]
 refine zag.val rfl rfl (by decide) (v:=.agg #[.int .i64 wd,.slice ga n cap]) (fun w hp=>?_) (fun hl w hp e he=>?_) ?_
 ·have c0:=hp.cell (mcm mcs) 0 rfl
  have c1:=hp.cell (mcm mcs) 1 rfl
  go_simp
 ·have c0:=hp.cell (mcm mcs) 0 rfl
  have c1:=hp.cell (mcm mcs) 1 rfl
  simp[go_sem, *] at he
  rcases he with rfl|rfl
  all_goals exact zau hl (mcm mcs) _
 walk_nrm
 have hcl1:∀ w,Hp ((br,.cells #[.func (.func fr) #[] #[]] 71)::(bg,.cells #[.int .i64 wd,.slice ga n cap] 33)::l0) w->Closed Kc w:=fun w hp=>hcl w fun p h=>hp p (mcm (mcm h))
 refine zag.enter rfl rfl (by decide) (fun w=>run_call_body rfl Tryz.func71 rfl rfl) (fun w=>events_call_body rfl Tryz.func71 rfl rfl _) ?_
 walk_nrm
 refine zag.callv (Kc:=Kc) (Lv:=fun _=>False) W B (fun _ _ _ _=>trivial) (fun _ _ _ h=>h.elim) hX hf3 rfl hx3 (by kernel_rfl) (v0:=.bool true) (fun _ _ h=>zbw h) (fun _ h=>h) hcl1 (zax _ hga) (fun w hp=>hok w fun p h=>hp p (mcm (mcm h))) fun S1=>?_
 simp only[Frame.finish_at]
 walk_nrm
 refine zag.val rfl rfl (by decide) (v:=.bool false) (fun w hp=>by go_simp) (fun _ w hp e he=>by simp[go_sem] at he) ?_
 walk_nrm
 refine zag.re ?_
 refine zag.ctl rfl (fun _=>stepG_cond (t:=false) rfl) ?_
 simp only[Bool.false_eq_true,↓reduceIte]
 refine zag.ctl rfl (fun _=>stepG_skip) ?_
 refine zag.sq ?_
 refine zag.rg ?_
 simp only[List.size_toArray,List.length_cons,List.length_nil,Nat.reduceAdd,Nat.zero_add,List.range,List.range.loop]
 refine zag.val rfl rfl (by decide) (v:=.agg #[.int .i64 wd,.slice ga n cap]) (fun w hp=>?_) (fun hl w hp e he=>?_) ?_
 ·have c0:=hp.cell (mcm mcs) 0 rfl
  have c1:=hp.cell (mcm mcs) 1 rfl
  go_simp
 ·have c0:=hp.cell (mcm mcs) 0 rfl
  have c1:=hp.cell (mcm mcs) 1 rfl
  simp[go_sem, *] at he
  rcases he with rfl|rfl
  all_goals exact zau hl (mcm mcs) _
 walk_nrm
 refine zag.enter rfl rfl (by decide) (fun w=>run_call_body rfl Tryz.func85 rfl rfl) (fun w=>events_call_body rfl Tryz.func85 rfl rfl _) ?_
 walk_nrm
 refine zag.callv (Kc:=Kc) (Lv:=fun _=>False) W B (fun _ _ _ _=>trivial) (fun _ _ _ h=>h.elim) hX hf4 rfl hx4 (by kernel_rfl) (v0:=.int .i64 many) (fun _ _ h=>zci h) (fun _ h=>h) hcl1 (zax _ hga) (fun w hp=>hmany w fun p h=>hp p (mcm (mcm h))) fun S1=>?_
 simp only[Frame.finish_at]
 walk_nrm
 refine zag.val rfl rfl (by decide) (v:=.int .i64 many) (fun w hp=>by go_simp) (fun _ w hp e he=>by simp[go_sem] at he) ?_
 walk_nrm
 refine zag.re ?_
 refine zag.sq ?_
 refine zag.rg ?_
 simp only[List.size_toArray,List.length_cons,List.length_nil,Nat.reduceAdd,Nat.zero_add,List.range,List.range.loop]
 refine zag.val rfl rfl (by decide) (v:=.int .i64 many) (fun w hp=>by go_simp) (fun _ w hp e he=>by simp[go_sem] at he) ?_
 walk_nrm
 refine zag.stop fun hl w1 hp1 _ hlt1=>?_
 intro hsz hnew _ hKS _ hkept ht ho hu
 refine zar.quiet hG (U':=fun _=>False) rfl (V:=fun d=>(w1.at d).alloc (.chan many #[] false 0 0 false)) (fun d=>by simp[World.at]) (fun d=>zcf (v:=.chan (some w1.heap.size)) rfl rfl (by decide) (by exact(zff (w:=w1.at d) (n:=many) rfl rfl Tryz.underlying156 Tryz.type159 (by omega) (by simp only[zk5];omega)).1) (by exact(zff (w:=w1.at d) (n:=many) rfl rfl Tryz.underlying156 Tryz.type159 (by omega) (by simp only[zk5];omega)).2)) (fun _ h=>h.elim) fun d=>?_
 obtain⟨ch,hch⟩:∃ ch,ch=w1.heap.size:=⟨_,rfl⟩
 have hchs:ch=(w1.at d).heap.size:=hch
 rw[<- hch]
 have hp2:Hp ((br,.cells #[.func (.func fr) #[] #[]] 71)::(bg,.cells #[.int .i64 wd,.slice ga n cap] 33)::l0) ((w1.at d).alloc (.chan many #[] false 0 0 false)):=fun p h=>(hp1.on d).new (.chan many #[] false 0 0 false) p (mcm h)
 have hxw2:Hp [(ch,.chan many #[] false 0 0 false)] ((w1.at d).alloc (.chan many #[] false 0 0 false)):=fun p h=>by rw[hchs] at h;exact(hp1.on d).new (.chan many #[] false 0 0 false) p (by simp at h;subst h;exact mcs)
 obtain⟨w2,hw2⟩:∃ w2,w2=(w1.at d).alloc (.chan many #[] false 0 0 false):=⟨_,rfl⟩
 have hsz2:w2.heap.size=ch+1:=by rw[hw2,hch];simp[World.at]
 have hk2:∀ e,e<w1.heap.size->w2.heap[e]?=w1.heap[e]?:=fun e he=>by rw[hw2];exact(za5 (w1.at d) _).2 e he
 have ht2:w2.tape=w1.tape/\w2.os=w1.os/\w2.output=w1.output:=by rw[hw2];exact⟨rfl,rfl,rfl⟩
 rw[<- hw2] at hp2 hxw2 ⊢
 clear hw2 hchs
 walk_nrm
 have hbgl:bg<w1.heap.size:=hlt1 bg (.inr (by simp))
 have hbrl:br<w1.heap.size:=hlt1 br (.inr (by simp))
 have hK1:∀ p∈(br,.cells #[.func (.func fr) #[] #[]] 71)::(bg,.cells #[.int .i64 wd,.slice ga n cap] 33)::l0,Kc p.1\/p.1=bg\/p.1=br:=fun p h=>by
  rcases List.mem_cons.1 h with rfl|h
  ·exact .inr (.inr rfl)
  ·rcases List.mem_cons.1 h with rfl|h
   ·exact .inr (.inl rfl)
   ·exact .inl (hl0 p h)
 refine zar.way hG (ch:=0) (K:=fun d=>Kc d\/d=bg\/d=br) (S:=fun _=>False) (l:=(br,.cells #[.func (.func fr) #[] #[]] 71)::(bg,.cells #[.int .i64 wd,.slice ga n cap] 33)::l0) (lx:=[(ch,.chan many #[] false 0 0 false)]) hp2 (fun p h=>.inl (hK1 p h)) hxw2 (fun _ _ h=>h) (fun _ h=>h.elim) (fun d hd=>?_) ?_
 ·rcases hd with (hd|rfl|rfl)|hd
  ·exact⟨by have:=(hKc d hd).1;omega,(hKc d hd).2,fun h=>h⟩
  ·exact⟨by omega,(hKS _ (.inr (by simp))).2.1,fun h=>h⟩
  ·exact⟨by omega,(hKS _ (.inr (by simp))).2.1,fun h=>h⟩
  ·exact hd.elim
 refine zag.new hLa rfl rfl (by decide) (V:=fun c=>.pointer (some ⟨c,0,none⟩)) (obj:=.cells #[.chan none] 156) (fun w hp=>by go_simp) (fun _ w hp e he=>by simp[go_sem] at he) fun bc hK_bc hS_bc=>?_
 walk_nrm
 refine zag.put (l':=(bc,.cells #[.chan (some ch)] 156)::(br,.cells #[.func (.func fr) #[] #[]] 71)::(bg,.cells #[.int .i64 wd,.slice ga n cap] 33)::l0) (c:=bc) (obj:=.cells #[.chan (some ch)] 156) rfl rfl (by decide) (.inr rfl) (fun _ _ _ h=>h) (fun w hp=>⟨_,zfg (ty:=156) rfl rfl rfl rfl rfl (hp.at mcs) zis (by simp),(zas (hp.at mcs)).1,(zas (hp.at mcs)).2⟩) (fun _ w hp e he=>?_) (fun p hp=>?_) ?_
 ·obtain⟨q,rfl⟩:=zhm (ty:=156) rfl rfl rfl rfl rfl (hp.at mcs) zis (by simp) e he
  exact Or.inl ⟨_,_,rfl,Or.inl (Or.inr rfl)⟩
 ·rcases List.mem_cons.1 hp with rfl|hp
  ·exact .inl rfl
  ·exact .inr ⟨mcm hp,fun e=>hK_bc (e ▸ hK1 p hp)⟩
 walk_nrm
 refine zag.re ?_
 refine zag.sq ?_
 refine zag.rg ?_
 simp only[List.size_toArray,List.length_cons,List.length_nil,Nat.zero_add,List.range,List.range.loop]
 refine zag.stop fun hl3 w3 hp3 _ hlt3=>?_
 intro hsz3 hnew3 hx3' hKS3 _ hkept3 ht3 ho3 hu3
 refine zar.quiet hG (U':=fun e=>e=w3.heap.size) rfl (V:=fun d=>(w3.at d).alloc (.cells #[.int .u64 0,.int .u32 0] 134)) (fun d=>by simp[World.at]) (fun d=>zcf (v:=.pointer (some ⟨w3.heap.size,0,none⟩)) rfl rfl (by decide) (by go_simp;rfl) (by simp[go_sem])) (fun e h=>.inr (Nat.le_of_eq h.symm)) fun d=>?_
 obtain⟨Wg,hWg⟩:∃ Wg,Wg=w3.heap.size:=⟨_,rfl⟩
 have hWgs:Wg=(w3.at d).heap.size:=hWg
 rw[<- hWg]
 have hp4:Hp ((bc,.cells #[.chan (some ch)] 156)::(br,.cells #[.func (.func fr) #[] #[]] 71)::(bg,.cells #[.int .i64 wd,.slice ga n cap] 33)::l0) ((w3.at d).alloc (.cells #[.int .u64 0,.int .u32 0] 134)):=fun p h=>(hp3.on d).new (.cells #[.int .u64 0,.int .u32 0] 134) p (mcm h)
 have hx4':Hp [(Wg,.cells #[.int .u64 0,.int .u32 0] 134),(ch,.chan many #[] false 0 0 false)] ((w3.at d).alloc (.cells #[.int .u64 0,.int .u32 0] 134)):=fun p h=>by rw[hWgs] at h;exact(hx3'.on d).new (.cells #[.int .u64 0,.int .u32 0] 134) p h
 obtain⟨w4,hw4⟩:∃ w4,w4=(w3.at d).alloc (.cells #[.int .u64 0,.int .u32 0] 134):=⟨_,rfl⟩
 have hsz4:w4.heap.size=Wg+1:=by rw[hw4,hWg];simp[World.at]
 have hk4:∀ e,e<w3.heap.size->w4.heap[e]?=w3.heap[e]?:=fun e he=>by rw[hw4];exact(za5 (w3.at d) _).2 e he
 have ht4:w4.tape=w3.tape/\w4.os=w3.os/\w4.output=w3.output:=by rw[hw4];exact⟨rfl,rfl,rfl⟩
 rw[<- hw4] at hp4 hx4' ⊢
 clear hw4 hWgs
 walk_nrm
 have hbcl:bc<w3.heap.size:=hlt3 bc (.inr (.inr rfl))
 have hK2:∀ p∈(bc,.cells #[.chan (some ch)] 156)::(br,.cells #[.func (.func fr) #[] #[]] 71)::(bg,.cells #[.int .i64 wd,.slice ga n cap] 33)::l0,Kc p.1\/p.1=bg\/p.1=br\/p.1=bc:=fun p h=>by
  rcases List.mem_cons.1 h with rfl|h
  ·exact .inr (.inr (.inr rfl))
  ·rcases hK1 p h with h|h|h
   ·exact .inl h
   ·exact .inr (.inl h)
   ·exact .inr (.inr (.inl h))
 have hShb:¬ Shun bg/\¬ Shun br/\¬ Shun bc:=⟨(hKS _ (.inr (by simp))).2.1,(hKS _ (.inr (by simp))).2.1,(hKS3 bc (.inr (.inr rfl))).2.1⟩
 have hchlt:ch<w3.heap.size:=by omega
 refine zar.way hG (ch:=0) (K:=fun d=>Kc d\/d=bg\/d=br\/d=bc) (S:=fun _=>False) (l:=(bc,.cells #[.chan (some ch)] 156)::(br,.cells #[.func (.func fr) #[] #[]] 71)::(bg,.cells #[.int .i64 wd,.slice ga n cap] 33)::l0) (lx:=[(Wg,.cells #[.int .u64 0,.int .u32 0] 134),(ch,.chan many #[] false 0 0 false)]) hp4 (fun p h=>.inl (hK2 p h)) hx4' (fun _ _ h=>h) (fun e h=>by omega) (fun d hd=>?_) ?_
 ·rcases hd with (hd|rfl|rfl|rfl)|hd
  ·have:=hKc d hd;exact⟨by omega,this.2,by omega⟩
  ·exact⟨by omega,hShb.1,by omega⟩
  ·exact⟨by omega,hShb.2.1,by omega⟩
  ·exact⟨by omega,hShb.2.2,by omega⟩
  ·exact hd.elim
 refine zag.re ?_
 refine zag.sq ?_
 refine zag.sq ?_
 refine zag.rg ?_
 simp only[List.size_toArray,List.length_cons,List.length_nil,Nat.reduceAdd,Nat.zero_add,List.range,List.range.loop]
 refine zag.val rfl rfl (by decide) (v:=.agg #[.int .i64 wd,.slice ga n cap]) (fun w hp=>?_) (fun hl w hp e he=>?_) ?_
 ·have c0:=hp.cell (mcm (mcm mcs)) 0 rfl
  have c1:=hp.cell (mcm (mcm mcs)) 1 rfl
  go_simp
 ·have c0:=hp.cell (mcm (mcm mcs)) 0 rfl
  have c1:=hp.cell (mcm (mcm mcs)) 1 rfl
  simp[go_sem, *] at he
  rcases he with rfl|rfl
  all_goals exact zau hl (mcm (mcm mcs)) _
 walk_nrm
 have hcl2:∀ w,Hp ((bc,.cells #[.chan (some ch)] 156)::(br,.cells #[.func (.func fr) #[] #[]] 71)::(bg,.cells #[.int .i64 wd,.slice ga n cap] 33)::l0) w->Closed Kc w:=fun w hp=>hcl w (fun p h=>hp p (mcm (mcm (mcm h))))
 refine zag.enter rfl rfl (by decide) (fun w=>run_call_body rfl Tryz.func86 rfl rfl) (fun w=>events_call_body rfl Tryz.func86 rfl rfl _) ?_
 walk_nrm
 refine zag.callw (Kc:=Kc) (Lv:=fun _=>False) W B (fun _ _ _ _=>trivial) (fun _ _ _ h=>h.elim) hX hf5 rfl hx5 (v0:=.agg #[.int .i64 (f0 0:Int),.int .i64 x1,.int .i64 x2,.int .i64 x3,.int .i64 x4,.int .i64 x5,.int .i64 (f0 1:Int),.int .i64 x7,.int .i64 x8,.int .i64 x9,.int .i64 x10,.int .i64 x11,.int .i64 (f0 2:Int),.int .i64 x13,.int .i64 x14,.int .i64 x15,.int .i64 x16,.int .i64 x17,.int .i64 (f0 3:Int),.int .i64 x19,.int .i64 x20,.int .i64 x21,.int .i64 x22,.int .i64 x23]) (fun _ _ h=>zha h) (fun _ h=>.inl h) hcl2 (zax _ hga) (fun w hp=>hsides w (fun p h=>hp p (mcm (mcm (mcm h))))) fun S1=>?_
 simp only[Frame.finish_at]
 walk_nrm
 refine zag.val rfl rfl (by decide) (v:=.int .i64 0) (fun w hp=>by go_simp) (fun _ w hp e he=>by simp[go_sem] at he) ?_
 walk_nrm
 refine zag.re ?_
 refine zag.ctl rfl (fun _=>stepG_block) ?_
 refine zag.ctl rfl (fun _=>stepG_loop) ?_
 refine zag.stop fun hl5 w5 hp5 _ hlt5=>?_
 intro hsz5 hnew5 hx5' hKS5 hU5 hkept5 ht5 ho5 hu5
 obtain⟨B5,hB5⟩:∃ B5:Nat->Prop,B5=fun e=>e<w.heap.size/\¬ Shun e:=⟨_,rfl⟩
 obtain⟨Q5,hQ5⟩:∃ Q5:World->Prop,Q5=fun u=>(∀ e,B5 e->u.heap[e]?=w.heap[e]?)/\u.tape=w.tape/\u.os=w.os/\u.output=w.output/\w.heap.size<=u.heap.size:=⟨_,rfl⟩
 have hQ:zhd B5 Q5:=by
  rw[hQ5]
  exact fun u u1 h1 h2 h3 h4 h5 ⟨a1,a2,a3,a4,a5⟩=>⟨fun e he=>(h2 e he).trans (a1 e he),h3.trans a2,h4.trans a3,h5.trans a4,Nat.le_trans a5 h1⟩
 have hq5:Q5 w5:=by
  rw[hQ5,hB5]
  refine⟨fun e he=>?_,?_,?_,?_,by omega⟩
  ·have e1:=he.1
   rw[hkept5 e (by omega) (fun h=>h),hk4 e (by omega),hkept3 e (by omega) (fun h=>h),hk2 e (by omega),hkept e e1 (fun h=>h)]
  ·rw[ht5,ht4.1,ht3,ht2.1,ht]
  ·rw[ho5,ht4.2.1,ho3,ht2.2.1,ho]
  ·rw[hu5,ht4.2.2,hu3,ht2.2.2,hu]
 have hBl:∀ e,B5 e->e<w.heap.size/\¬ Shun e:=fun e he=>by rw[hB5] at he;exact he
 have hKB:∀ p∈(bc,.cells #[.chan (some ch)] 156)::(br,.cells #[.func (.func fr) #[] #[]] 71)::(bg,.cells #[.int .i64 wd,.slice ga n cap] 33)::l0,B5 p.1\/p.1=bg\/p.1=br\/p.1=bc:=fun p h=>(hK2 p h).imp (fun x=>by rw[hB5];exact hKc _ x) id
 have hbgw:w.heap.size<=bg/\w.heap.size<=br:=⟨by rcases hnew bg (by simp) with h|h;exact h.elim;exact h,by rcases hnew br (by simp) with h|h;exact h.elim;exact h⟩
 have hbcw:ch+1<=bc:=by rcases hnew3 bc (.inr rfl) with h|h;exact h.elim;omega
 have hlt6:∀ e,(B5 e\/e=bg\/e=br\/e=bc)\/False->e<w5.heap.size/\e≠Wg/\e≠ch/\¬ Shun e:=by
  rintro e ((he|rfl|rfl|rfl)|he)
  ·have:=hBl e he;exact⟨by omega,by omega,by omega,this.2⟩
  ·exact⟨by omega,by omega,by omega,hShb.1⟩
  ·exact⟨by omega,by omega,by omega,hShb.2.1⟩
  ·exact⟨by omega,by omega,by omega,hShb.2.2⟩
  ·exact he.elim
 have hlive:zan 134 Wg ch w5:=⟨⟨0,0,hx5'.at (c:=Wg) mcs⟩,_,_,_,_,_,hx5'.at (c:=ch) (mcm mcs)⟩
 have hchi:∀(f e i:Nat) (y1 y2 y3 y4 y5:Int),(e:Int)=f+y1->0<=y1->i<4->f=f0 i->e=e0 i->(∀(k:Nat) (w:World),Calls L 115 #[.agg #[.int .i64 (f:Int),.int .i64 y1,.int .i64 y2,.int .i64 y3,.int .i64 y4,.int .i64 y5],.int .i64 k] w fun e _=>e=.returned (.bool (decide ((f:Int)<=k/\(k:Int)<f+y1))))->∀(K:Nat->Prop) (bs:Nat) (l':List (Nat × Obj)),(bs,.cells #[.int .i64 (f:Int),.int .i64 y1,.int .i64 y2,.int .i64 y3,.int .i64 y4,.int .i64 y5] 136)∈l'->(∀ p∈(bc,.cells #[.chan (some ch)] 156)::(br,.cells #[.func (.func fr) #[] #[]] 71)::(bg,.cells #[.int .i64 wd,.slice ga n cap] 33)::l0,p∈l')->(∀ p∈l',K p.1)->∀ w,Hp l' w->zan 134 Wg ch w->(∀ c,K c->c<w.heap.size)->∃ rc,Sit Tryz.prog 134 Wg ch (zsW rows) K (fun _=>False) f e ⟨7,0,0⟩ rc (born Tryz.prog (zds Wg bg bs br bc)) w:=by
  intro f e i y1 y2 y3 y4 y5 hx hm hi ef ee hhas K bs l' h1 h2 h3 w hp hL hlt
  have sub:∀ p∈l0,p∈l':=fun p h=>h2 p (mcm (mcm (mcm h)))
  have hway:=zm9 (Wg:=Wg) (K:=K) (S:=fun _=>False) (Snd:=zsW rows) (fin:=e) (rows:=rows) W B hX hf1 hx1 hf2 hm2 hb2 hn2 hx2 hr2 (h2 _ (mcm (mcm mcs))) h1 (h2 _ (mcm mcs)) (h2 _ mcs) (fun d hd=>by obtain⟨p,hp,rfl⟩:=hKl d hd;exact h3 p (sub p hp)) (fun w hp=>hcl w fun p h=>hp p (sub p h)) hga hx hm (by have:=he1 i hi;omega) hhas (fun k h1 h2 w hp=>hrk k (by have:=he1 i hi;omega) w fun p h=>hp p (sub p h)) (fun _ _ _ _ _ _=>rfl)
  obtain⟨rc,hr⟩:=hway (fun p h=>.inl (h3 p h)) w hp hL (fun d hd=>hlt d (hd.elim id fun x=>x.elim))
  exact⟨rc,.work hr⟩
 refine zar.phase (ty:=134) (Wg:=Wg) (ch:=ch) (Snd:=zsW rows) (K:=fun e=>B5 e\/e=bg\/e=br\/e=bc) (S:=fun _=>False) (Post:=zsc Wg ch B5 Q5 ((bc,.cells #[.chan (some ch)] 156)::(br,.cells #[.func (.func fr) #[] #[]] 71)::(bg,.cells #[.int .i64 wd,.slice ga n cap] 33)::l0) (.agg #[.int .i64 wd,.slice ga n cap]) (.func (.func fr) #[] #[]) many bg br bc c cs (.agg #[.int .i64 (f0 0:Int),.int .i64 x1,.int .i64 x2,.int .i64 x3,.int .i64 x4,.int .i64 x5,.int .i64 (f0 1:Int),.int .i64 x7,.int .i64 x8,.int .i64 x9,.int .i64 x10,.int .i64 x11,.int .i64 (f0 2:Int),.int .i64 x13,.int .i64 x14,.int .i64 x15,.int .i64 x16,.int .i64 x17,.int .i64 (f0 3:Int),.int .i64 x19,.int .i64 x20,.int .i64 x21,.int .i64 x22,.int .i64 x23])) (Anch:=zdN Wg ch B5 Q5 ((bc,.cells #[.chan (some ch)] 156)::(br,.cells #[.func (.func fr) #[] #[]] 71)::(bg,.cells #[.int .i64 wd,.slice ga n cap] 33)::l0) (.agg #[.int .i64 wd,.slice ga n cap]) (.func (.func fr) #[] #[]) many bg br bc c cs _) hG (fun _ _ _ _ _ _ h=>h) (m:=4) (by decide) (by decide) (f0:=f0) (e0:=e0) hrng hcap (hx5'.at (c:=Wg) mcs) (hx5'.at (c:=ch) (mcm mcs)) (by omega) rfl (fun _ h=>h.elim) hlt6 zhj (zjs hQ ?_) (fun j0=>zmD rfl hQ (hchi _ _ 0 _ _ _ _ _ hx_0 hm_0 (by decide) rfl rfl hhas_0) (hchi _ _ 1 _ _ _ _ _ hx_1 hm_1 (by decide) rfl rfl hhas_1) (hchi _ _ 2 _ _ _ _ _ hx_2 hm_2 (by decide) rfl rfl hhas_2) (hchi _ _ 3 _ _ _ _ _ hx_3 hm_3 (by decide) rfl rfl hhas_3) (fun e he=>.inl he) (fun e he h=>?_) _ _ _ _ _ _ (fun p h=>.inl (hKB p h)) w5 hp5 hlive hq5 (fun e he=>(hlt6 e he).1) j0) ?_
 ·rintro (h|⟨p,hp,h⟩)
  ·have:=(hBl _ h).1;omega
  ·rcases hKB p hp with q|q|q|q
   ·have:=(hBl _ q).1;omega
   all_goals omega
 ·have:=hlt6 e he
  rcases h with h|h
  ·exact this.2.1 h
  ·exact this.2.2.1 h
 intro a w6 Kf Sf cap6 buf s6 r6 tm6 GG hP hc6 hb1 hb2 hltf _ _
 obtain⟨v9,v23,v24,v25,v26,hB6,⟨hq6,hp6,_⟩,mm,hgo⟩:=hP
 rw[hQ5] at hq6
 have hbc6:=hltf bc (hB6 bc (.inr ⟨_,mcs,rfl⟩))
 have hch6:ch<w6.heap.size:=(gei hc6).1
 refine zar.way hG (ch:=0) (K:=fun e=>e=bc) (S:=fun _=>False) (l:=[(bc,.cells #[.chan (some ch)] 156)]) (lx:=[(ch,.chan cap6 buf false s6 r6 tm6)]) (fun p h=>by simp at h;subst h;exact hp6.at mcs) (fun p h=>by simp at h;subst h;exact .inl rfl) (fun p h=>by simp at h;subst h;exact hc6) (fun _ _ h=>h) (fun _ h=>h.elim) (fun e he=>?_) ?_
 ·rcases he with rfl|he
  ·exact⟨hbc6.1,fun h=>h.elim hbc6.2.1 hShb.2.2,fun h=>h⟩
  ·exact he.elim
 refine zag.goes ?_ mm hgo
 refine zag.re ?_
 refine zag.sq ?_
 refine zag.rg ?_
 simp only[List.size_toArray,List.length_cons,List.length_nil,Nat.reduceAdd,Nat.zero_add,List.range,List.range.loop]
 refine zag.val rfl rfl (by decide) (v:=.chan (some ch)) (fun w hp=>?_) (fun hl w hp e he=>?_) ?_
 ·have c0:=hp.cell mcs 0 rfl
  go_simp
 ·have c0:=hp.cell mcs 0 rfl
  simp[go_sem, *] at he
  subst he
  exact zau hl mcs _
 walk_nrm
 refine zag.stop fun hl7 w7 hp7 _ hlt7=>?_
 intro hsz7 hnew7 hx7 hKS7 _ hkept7 ht7 ho7 hu7
 have hch7:ch<w7.heap.size:=by omega
 refine zar.close hG rfl (hx7.at mcs) (fun d=>stepG_close rfl rfl (by decide) rfl rfl ((hx7.on d).at mcs) (by kernel_rfl)) fun d=>?_
 obtain⟨w8,hw8⟩:∃ w8,w8=(w7.at d).setChan ch cap6 buf true s6 r6 tm6:=⟨_,rfl⟩
 have hc8:w8.heap[ch]?=some (.chan cap6 buf true s6 r6 tm6):=by rw[hw8];simp[World.setChan,World.at,hch7]
 have hk8:∀ e,e≠ch->w8.heap[e]?=w7.heap[e]?:=fun e he=>by rw[hw8];exact za0 (w7.at d) cap6 buf true s6 r6 tm6 he
 have hs8:w8.heap.size=w7.heap.size/\w8.tape=w7.tape/\w8.os=w7.os/\w8.output=w7.output:=by rw[hw8];exact⟨by simp[World.setChan,World.at],rfl,rfl,rfl⟩
 rw[<- hw8]
 clear hw8
 walk_nrm
 refine zar.way hG (ch:=0) (K:=fun e=>e=bc) (S:=fun _=>False) (l:=[(bc,.cells #[.chan (some ch)] 156)]) (lx:=[(ch,.chan cap6 buf true s6 r6 tm6)]) (fun p h=>by simp at h;subst h;rw[hk8 _ (by omega)];exact hp7.at mcs) (fun p h=>by simp at h;subst h;exact .inl rfl) (fun p h=>by simp at h;subst h;exact hc8) (fun _ _ h=>h) (fun _ h=>h.elim) (fun e he=>?_) ?_
 ·rcases he with rfl|he
  ·exact⟨by omega,fun h=>h.elim hbc6.2.1 hShb.2.2,fun h=>h⟩
  ·exact he.elim
 refine zag.re ?_
 refine zag.sq ?_
 refine zag.rg ?_
 simp only[List.size_toArray,List.length_cons,List.length_nil,Nat.reduceAdd,Nat.zero_add,List.range,List.range.loop]
 refine zag.val rfl rfl (by decide) (v:=.int .i64 many) (fun w hp=>by go_simp) (fun _ w hp e he=>by simp[go_sem] at he) ?_
 walk_nrm
 refine zag.new hLa rfl rfl (by decide) (V:=fun e=>.slice (some ⟨e,0,none⟩) many many) (obj:=.cells (madeCells (Value.cells (.int .i64 0)) (many * Tryz.t3.size)) 3) (fun w hp=>zq8 rfl rfl rfl Tryz.underlying25 Tryz.type3 zkP (by simp only[zfN];omega) (by omega)) (fun _ w hp e he=>by rw[zsf rfl rfl rfl Tryz.underlying25 Tryz.type3 zkP (by simp only[zfN];omega) (by omega) (by simp only[zfN,roomBytes];omega)] at he;simp at he) fun bo hK_bo hS_bo=>?_
 walk_nrm
 refine zag.val rfl rfl (by decide) (v:=.slice (some ⟨bo,0,none⟩) many many) (fun w hp=>by go_simp) (fun _ w hp e he=>by simp[go_sem] at he) ?_
 walk_nrm
 refine zag.re ?_
 refine zag.sq ?_
 refine zag.sq ?_
 refine zag.rg ?_
 simp only[List.size_toArray,List.length_cons,List.length_nil,Nat.zero_add,List.range,List.range.loop]
 refine zag.val rfl rfl (by decide) (v:=.chan (some ch)) (fun w hp=>?_) (fun hl w hp e he=>?_) ?_
 ·have c0:=hp.cell (mcm mcs) 0 rfl
  go_simp
 ·have c0:=hp.cell (mcm mcs) 0 rfl
  simp[go_sem, *] at he
  subst he
  exact zau hl (mcm mcs) _
 walk_nrm
 refine zag.re ?_
 refine zag.ctl rfl (fun _=>stepG_block) ?_
 refine zag.ctl rfl (fun _=>stepG_loop) ?_
 refine zag.stop fun hl9 w9 hp9 _ hlt9=>?_
 intro hsz9 hnew9 hx9 hKS9 _ hkept9 ht9 ho9 hu9
 have hbo9:w8.heap.size<=bo:=by rcases hnew9 bo (.inr rfl) with h|h;exact h.elim;exact h
 refine collect (B:=B5) (w0:=w) hG (fun e he=>(hBl e he).1) (by omega) (by omega) (by omega) (hKS9 bo (.inr (.inr rfl))).2.1 (fun _ _ h=>h) (fun u hu hbo=>hfin u bo (hB5 ▸ hu) (by omega) hbo _ (fun e he=>he.elim (fun h=>.inr (by omega)) .inl) (hKS9 bo (.inr (.inr rfl))).2.1) buf.toList _ cap6 s6 r6 tm6 _ _ _ _ _ _ _ _ _ _ _ _ _ _ _ _ _ _ _ _ _ _ _ _ _ _ _ _ _ _ _ _ _ _ _ _ _ _ _ _ w9 (fun x hx=>?_) (by simp[madeCells,zpO]) (fun k hk=>.inr ?_) (hx9.at mcs) (hp9.at mcs) ?_
 ·obtain⟨i,k,a1,a2,a3,a4⟩:=hb1 x (by simpa using hx)
  exact⟨k,by have:=he1 i a1;omega,a4⟩
 ·obtain⟨i,a1,a2,a3⟩:=hcover k hk
  obtain⟨x,hx,rfl⟩:=hb2 i k a1 a2 a3
  simpa using hx
 ·obtain⟨a1,a2,a3,a4,a5⟩:=hq6
  refine⟨fun e he=>?_,by rw[ht9,hs8.2.1,ht7,a2],by rw[ho9,hs8.2.2.1,ho7,a3],by rw[hu9,hs8.2.2.2,hu7,a4],by omega⟩
  have:=(hBl e he).1
  rw[hkept9 e (by omega) (fun h=>h),hk8 e (by omega),hkept7 e (by omega) (fun h=>h),a1 e he]
