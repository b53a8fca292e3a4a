/- Part. -/
import Derived.Test.YtefakaeblcafmaaGreatNAg
set_option maxHeartbeats 4000000
set_option maxRecDepth 100000
namespace Go.Proofs.YtefakaeblcafmaaGreat
variable{a:Act}{K S:Nat->Prop}{x:Operand}{w:World}
open Tryz
namespace R2
open Go Go.Conc Go.ConcN Go.RowKit Go.Conc.Lib Go.ConcR.Gen Go.ConcN.Gen
open Go.ConcR (KK wgBlock WgAt stA smA rd wr mk Payload Aside2 DC0)
variable{fC fR fS tC tW tF tE tL:Nat}{bC bR bS:Func}{z:Value}{Sh:Value->Prop}
noncomputable abbrev zpn(bR:Func):Code:=match bR.body with|some (.seq _ (.seq _ (.seq _ (.seq _ (.seq _ (.seq (.seq _ (.block _ (.loop c))) _))))))=>c|_=>.skip
noncomputable abbrev zcY(bR:Func):Code:=match bR.body with|some (.seq _ (.seq _ (.seq _ (.seq _ (.seq _ (.seq (.seq _ (.block _ (.loop _))) c))))))=>c|_=>.skip
noncomputable abbrev zgq(fR:Nat)(bR:Func)(gV rV sV:Value)(many i:Int)(bg br bc Wg ch:Nat)(c:Frame)(cs:List Frame)(v9 v22 v23 v24 v25 v26:Value):Goroutine:=G ((base fR).at ⟨#[gV,rV,.pointer (some ⟨bg,0,none⟩),.pointer (some ⟨br,0,none⟩),.slice none 0 0,.int .i64 many,.pointer (some ⟨bc,0,none⟩),.pointer (some ⟨Wg,0,none⟩),undef,v9,undef,undef,gV,.bool true,.bool false,gV,.int .i64 many,.int .i64 many,.chan (some ch),gV,sV,.int .i64 i,v22,v23,v24,v25,v26,undef,undef,undef,undef,undef,undef,undef,undef,undef,undef,undef,undef,undef,undef,undef],[]⟩ [.code (zpn bR),.inLoop (zpn bR),.inBlock 0,.code (zcY bR)]) (c::cs)
section
variable[Payload]{Snd:Nat->(Nat->Prop)->Value->World->Prop}{Wg ch:Nat}{fst fin:Nat->Nat}{B:Nat->Prop}{Q:World->Prop}{l:List (Nat × Obj)}{gV rV:Value}{many:Int}{bg br bc:Nat}{c:Frame}{cs:List Frame}{sV:Value}{i i' y0 y1 y2 y3 y4 y5:Int}{St1:(Nat->Prop)->St}{jn:Nat}
theorem ze7(I:Ins fC fR fS tC tW tF tE tL bC bR bS z Sh)(hQ:zj7 B Q)(hi:decide (i<4)=true)(hi':IntKind.i64.wrap (i+1)=i')(hix:∀ w,Sem.run Tryz.prog (Instr.index 120 sV (.int .i64 i)) w=.ok (.agg #[.int .i64 y0,.int .i64 y1,.int .i64 y2,.int .i64 y3,.int .i64 y4,.int .i64 y5]) w)(hie:∀ w es,Sem.events Tryz.prog (Instr.index 120 sV (.int .i64 i)) w es=es)(hchild:∀(K:Nat->Prop) (bs:Nat) (l':List (Nat × Obj)),(bs,.cells #[.int .i64 y0,.int .i64 y1,.int .i64 y2,.int .i64 y3,.int .i64 y4,.int .i64 y5] 86)∈l'->(∀ p∈l,p∈l')->(∀ p∈l',K p.1)->∀ w,Hp l' w->zak 119 Wg ch w->(∀ c,K c->c<w.heap.size)->∃ rc,Sit Tryz.prog 119 Wg ch Snd K (fun _=>False) (fst jn) (fin jn) ⟨7,0,0⟩ rc (born Tryz.prog (zcd fC Wg bg bs br bc)) w)(hnext:∀(K':Nat->Prop) (v9 v22 v23 v24 v25 v26:Value),(∀ c,B c->K' c)->(∀ c,K' c->¬ LvW Wg ch c)->zaY Tryz.prog true (zak 119 Wg ch) (ExE Wg true) (fun _ S g w=>St1 K' S g w) (fun _ _ _ _=>False) ch K' Q l 0 (fun _=>False) (zgq fR bR gV rV sV many i' bg br bc Wg ch c cs v9 v22 v23 v24 v25 v26))(hBK:∀ c,B c->K c)(hKL:∀ c,K c\/S c->¬ LvW Wg ch c)(v9 v22 v23 v24 v25 v26:Value):zaY Tryz.prog true (zak 119 Wg ch) (ExE Wg true) (fun _ S g w=>zms Tryz.prog 119 Wg ch Snd fst fin K jn (fun K S g w=>WX Tryz.prog 119 Wg ch K (St1 K) S g w) S g w) (fun _ _ _ _=>False) ch K Q l 0 S
  (zgq fR bR gV rV sV many i bg br bc Wg ch c cs v9 v22 v23 v24 v25 v26):=by
 have hC:=I.hC
 have hR:=I.hR
 have hS:=I.hS
 obtain⟨FC,hFC⟩:∃ x,x=fC:=⟨_,rfl⟩
 have I0:=I
 cases I
 all_goals
  simp only[zgq,zpn,Tryz.f58,Tryz.f37]
  refine zaY.sq ?_
  refine zaY.rg ?_
  simp only[rgs]
  refine zaY.val rfl rfl qi (v:=.bool true) (fun w hp=>by (have h:=hi;go_simp)) (fun _ w hp e he=>by simp[go_sem] at he) ?_
  walk_nrm
  refine zaY.re ?_
  refine zaY.sq ?_
  refine zaY.ctl rfl (fun _=>stepG_cond (t:=true) rfl) ?_
  simp only[↓reduceIte]
  refine zaY.ctl rfl (fun _=>stepG_skip) ?_
  refine zaY.sq ?_
  refine zaY.ctl rfl (fun _=>stepG_block) ?_
  refine zaY.sq ?_
  refine zaY.rg ?_
  simp only[rgs,Nat.reduceAdd]
  refine zaY.val rfl rfl qi (v:=.agg #[.int .i64 y0,.int .i64 y1,.int .i64 y2,.int .i64 y3,.int .i64 y4,.int .i64 y5]) (fun w hp=>by (have h:=hix w;go_simp)) (fun _ w hp e he=>by simp[go_sem,hie] at he) ?_
  walk_nrm
  refine zaY.new hQ hBK zak.low zak.alloc rfl rfl qi (V:=fun c=>.pointer (some ⟨c,0,none⟩)) (obj:=.cells #[.int .i64 0,.int .i64 0,.int .i64 0,.int .i64 0,.int .i64 0,.int .i64 0] 86) (fun w hp=>qo) (fun _ w hp e he=>by simp[go_sem] at he) fun b9 hK_b9 hS_b9 hv_b9 hl_b9=>?_
  walk_nrm
  refine zaY.put (l':=(b9,.cells #[.int .i64 y0,.int .i64 y1,.int .i64 y2,.int .i64 y3,.int .i64 y4,.int .i64 y5] 86)::l) (c:=b9) (obj:=.cells #[.int .i64 y0,.int .i64 y1,.int .i64 y2,.int .i64 y3,.int .i64 y4,.int .i64 y5] 86) hQ hBK rfl rfl qi (Or.inr rfl) (fun h=>hK_b9 (hBK b9 h)) (zak.aside hv_b9) (fun w hp=>⟨w.setRow b9 #[.int .i64 y0,.int .i64 y1,.int .i64 y2,.int .i64 y3,.int .i64 y4,.int .i64 y5],zhs (ty:=86) rfl rfl rfl (hp.at mcs) zia rfl qm,(zaB (hp.at mcs)).1,(zaB (hp.at mcs)).2⟩) (fun _ w hp e he=>?_) (fun p hp=>?_) ?_
  ·obtain⟨q,rfl⟩:=zkk (cells:=#[.int .i64 y0,.int .i64 y1,.int .i64 y2,.int .i64 y3,.int .i64 y4,.int .i64 y5]) (ty:=86) rfl rfl rfl (hp.at mcs) zia rfl qm e he
   exact Or.inl ⟨_,_,rfl,Or.inl (Or.inr rfl)⟩
  ·rcases List.mem_cons.1 hp with rfl|hp
   ·exact Or.inl rfl
   ·exact Or.inr ⟨mcm hp,hl_b9 p hp⟩
  walk_nrm
  refine zaY.re ?_
  refine zaY.sq ?_
  refine zaY.rg ?_
  simp only[rgs]
  refine zaY.enter rfl rfl qi (fun w=>run_call_body rfl func62 rfl rfl) (fun w=>events_call_body rfl func62 rfl rfl _) ?_
  rw[enter_at _ func62 rfl]
  walk_nrmf Tryz.f62
  intro hl w hp hL hq hlt
  have hKL9:∀ d,K d\/S d\/d=b9->¬ LvW Wg ch d:=fun d hd=>by rcases hd with h|h|rfl;exact hKL d (.inl h);exact hKL d (.inr h);exact hv_b9
  refine zmw (Fp:=zoE Q _ (fun d=>K d\/S d\/d=b9)) (S:=fun d=>S d\/d=b9) zqk (zhd hQ) (fun h=>?_) (fun d hd=>?_) ?_ w ⟨hq,hp,hlt⟩ hL
  ·rcases h with h|⟨p,hp,h⟩
   ·exact hKL _ (.inl (hBK _ h)) (.inl rfl)
   ·exact hKL9 _ (hl p hp) (.inl h)
  ·rcases hd with h|⟨p,hp,rfl⟩
   ·exact .inl (hBK _ h)
   ·exact hl p hp
  rintro w ⟨hq,hp,hlt⟩ hL
  refine(?_:zaY Tryz.prog true (zak 119 Wg ch) (ExE Wg true) (fun _ S g w=>MGo Tryz.prog 119 Wg ch Snd fst fin K jn (fun K S g w=>WX Tryz.prog 119 Wg ch K (St1 K) S g w) S g w) (fun _ _ _ _=>False) ch K Q ((b9,.cells #[.int .i64 y0,.int .i64 y1,.int .i64 y2,.int .i64 y3,.int .i64 y4,.int .i64 y5] 86)::l) 0 (fun d=>S d\/d=b9) _) hl w hp hL hq hlt
  walk_nrm
  refine zaY.re ?_
  refine zaY.rg ?_
  simp only[rgs,Nat.reduceAdd]
  refine zaY.val rfl rfl qi (v:=.func (.func FC) #[] #[.pointer (some ⟨Wg,0,none⟩),.pointer (some ⟨bg,0,none⟩),.pointer (some ⟨b9,0,none⟩),.pointer (some ⟨br,0,none⟩),.pointer (some ⟨bc,0,none⟩)]) (fun w hp=>by subst hFC;go_simp) (fun _ w hp e he=>by simp[go_sem] at he) ?_
  subst hFC
  walk_nrm
  refine zaY.stop hQ hBK fun hl w hp hL hq hlt=>?_
  obtain⟨rc,hsit⟩:=hchild (fun d=>K d\/S d\/d=b9) b9 ((b9,.cells #[.int .i64 y0,.int .i64 y1,.int .i64 y2,.int .i64 y3,.int .i64 y4,.int .i64 y5] 86)::l) mcs (fun p h=>mcm h) hl w hp hL hlt
  refine⟨rfl,_,born Tryz.prog (zcd _ Wg bg b9 br bc),fun d=>K d\/S d\/d=b9,rc,zq3 rfl rfl qi rfl rfl,fun _ h=>h,hsit,?_⟩
  show WX Tryz.prog 119 Wg ch (fun d=>K d\/S d\/d=b9) (St1 (fun d=>K d\/S d\/d=b9)) (fun _=>False) _ w
  refine(?_:zaY Tryz.prog true (zak 119 Wg ch) (ExE Wg true) (fun _ S1 g w=>St1 (fun d=>K d\/(S d\/d=b9)) S1 g w) (fun _ _ _ _=>False) ch (fun d=>K d\/(S d\/d=b9)) Q l 0 (fun _=>False) _) (fun p h=>.inl (hl p (mcm h))) w (fun p h=>hp p (mcm h)) hL hq (fun d hd=>hlt d (by simpa using hd))
  walk_nrm
  refine zaY.re ?_
  refine zaY.ctl rfl (fun _=>stepG_inBlock) ?_
  refine zaY.rg ?_
  simp only[rgs,Nat.reduceAdd]
  refine zaY.val rfl rfl qi (v:=.int .i64 i') (fun w hp=>by (have h:=hi';go_simp)) (fun _ w hp e he=>by simp[go_sem] at he) ?_
  walk_nrm
  refine zaY.val rfl rfl qi (v:=.int .i64 i') (fun w hp=>qo) (fun _ w hp e he=>by simp[go_sem] at he) ?_
  walk_nrm
  refine zaY.re ?_
  refine zaY.ctl rfl (fun _=>stepG_inLoop) ?_
  exact hnext _ _ _ _ _ _ _ (fun d hd=>.inl (hBK d hd)) hKL9
end
noncomputable abbrev znv(bR:Func):Array Oper:=match zcY bR with|.seq (.region _ o _) _=>o|_=>#[]
noncomputable abbrev zjH(bR:Func):Code:=match zcY bR with|.seq _ c=>c|_=>.skip
section
variable(fR:Nat)(bR:Func)(Wg ch:Nat)(B:Nat->Prop)(Q:World->Prop)(l:List (Nat × Obj))(gV rV:Value)(many:Int)(bg br bc:Nat)(c:Frame)(cs:List Frame)(sV:Value)
def zb1:(Nat->Prop)->St:=fun K S g w=>∃ v9 v23 v24 v25 v26:Value,zmq zqK Wg ch (fun c=>B c\/∃ p∈l,p.1=c) (zoE Q l (fun _=>False)) ((base fR).at ⟨#[gV,rV,.pointer (some ⟨bg,0,none⟩),.pointer (some ⟨br,0,none⟩),.slice none 0 0,.int .i64 many,.pointer (some ⟨bc,0,none⟩),.pointer (some ⟨Wg,0,none⟩),undef,v9,undef,undef,gV,.bool true,.bool false,gV,.int .i64 many,.int .i64 many,.chan (some ch),gV,sV,.int .i64 4,.bool false,v23,v24,v25,v26,undef,undef,undef,undef,undef,undef,undef,undef,undef,undef,undef,undef,undef,undef,undef],[]⟩ [.inRegion (znv bR) [0],.code (zjH bR)]) (c::cs) K S g w
def zqq:(Nat->Prop)->St:=fun K S g w=>∃ v9 v23 v24 v25 v26:Value,zqQ Tryz.prog (fun c=>B c\/∃ p∈l,p.1=c) (zoE Q l (fun _=>False)) (G ((base fR).at ⟨#[gV,rV,.pointer (some ⟨bg,0,none⟩),.pointer (some ⟨br,0,none⟩),.slice none 0 0,.int .i64 many,.pointer (some ⟨bc,0,none⟩),.pointer (some ⟨Wg,0,none⟩),undef,v9,undef,undef,gV,.bool true,.bool false,gV,.int .i64 many,.int .i64 many,.chan (some ch),gV,sV,.int .i64 4,.bool false,v23,v24,v25,v26,.tuple #[],undef,undef,undef,undef,undef,undef,undef,undef,undef,undef,undef,undef,undef,undef],[]⟩ [.inRegion (znv bR) [],.code (zjH bR)]) (c::cs)) K S g w
end
section
variable{Wg ch:Nat}{B:Nat->Prop}{Q:World->Prop}{l:List (Nat × Obj)}{gV rV:Value}{many:Int}{bg br bc:Nat}{c:Frame}{cs:List Frame}{sV:Value}
theorem zgn:∀ K S g w,zb1 fR bR Wg ch B Q l gV rV many bg br bc c cs sV K S g w->g.status=.running:=by
 rintro K S g w ⟨v9,v23,v24,v25,v26,h⟩
 exact zg1 K S g w h
theorem zhQ(I:Ins fC fR fS tC tW tF tE tL bC bR bS z Sh)(hQ:zj7 B Q)(hB:¬ (B Wg\/∃ p∈l,p.1=Wg)):∀ K S g w,zb1 fR bR Wg ch B Q l gV rV many bg br bc c cs sV K S g w->WX Tryz.prog 119 Wg ch K (MW1 Tryz.prog 119 Wg ch (zqq fR bR Wg ch B Q l gV rV many bg br bc c cs sV) (zb1 fR bR Wg ch B Q l gV rV many bg br bc c cs sV) K) S g w:=by
 cases I
 all_goals
  rintro K S g w ⟨v9,v23,v24,v25,v26,h⟩
  exact zcg (fun _ _ _ x=>zpp (fun _ _ _ _ x=>⟨_,_,_,_,_,x⟩) (fun _ _ _ _ x=>⟨_,_,_,_,_,x⟩) x) (zmp zqk (zhd hQ) hB K S g w h)
theorem zpF(I:Ins fC fR fS tC tW tF tE tL bC bR bS z Sh)(hQ:zj7 B Q)(hBK:∀ c,B c->K c)(v9 v22 v23 v24 v25 v26:Value):zaY Tryz.prog true (zak 119 Wg ch) (ExE Wg true) (fun _ S g w=>MKd Tryz.prog 119 Wg ch (zb1 fR bR Wg ch B Q l gV rV many bg br bc c cs sV) K S g w) (fun _ _ _ _=>False) ch K Q l 0 S
  (zgq fR bR gV rV sV many 4 bg br bc Wg ch c cs v9 v22 v23 v24 v25 v26):=by
 have hC:=I.hC
 have hR:=I.hR
 have hS:=I.hS
 obtain⟨FR,hFR⟩:∃ x,x=fR:=⟨_,rfl⟩
 obtain⟨BR,hBR⟩:∃ x,x=bR:=⟨_,rfl⟩
 have I0:=I
 cases I
 all_goals
  simp only[zgq,zpn,zcY,Tryz.f58,Tryz.f37]
  refine zaY.sq ?_
  refine zaY.rg ?_
  simp only[rgs]
  refine zaY.val rfl rfl qi (v:=.bool false) (fun w hp=>qo) (fun _ w hp e he=>by simp[go_sem] at he) ?_
  walk_nrm
  refine zaY.re ?_
  refine zaY.sq ?_
  refine zaY.ctl rfl (fun _=>stepG_cond (t:=false) rfl) ?_
  simp only[Bool.false_eq_true,↓reduceIte]
  refine zaY.ctl rfl (fun _=>stepG_exit rfl) ?_
  refine zaY.sq ?_
  refine zaY.rg ?_
  simp only[rgs]
  refine zaY.enter rfl rfl qi (fun w=>run_call_body rfl func66 rfl rfl) (fun w=>events_call_body rfl func66 rfl rfl _) ?_
  rw[enter_at _ func66 rfl]
  walk_nrmf Tryz.f66
  intro hl w hp hL hq hlt
  have hm:=zj1 (K:=K) (S:=S) (b₀:=base FR) (a₀:=⟨#[gV,rV,.pointer (some ⟨bg,0,none⟩),.pointer (some ⟨br,0,none⟩),.slice none 0 0,.int .i64 many,.pointer (some ⟨bc,0,none⟩),.pointer (some ⟨Wg,0,none⟩),undef,v9,undef,undef,gV,.bool true,.bool false,gV,.int .i64 many,.int .i64 many,.chan (some ch),gV,sV,.int .i64 4,.bool false,v23,v24,v25,v26,undef,undef,undef,undef,undef,undef,undef,undef,undef,undef,undef,undef,undef,undef,undef],[]⟩) (ops₀:=znv BR) (i₀:=0) (rest₀:=[]) (k₀:=[.code (zjH BR)]) (cs:=c::cs) zqk (zhd (l:=l) (A:=fun _=>False) hQ) (fun d hd=>by rcases hd with h|⟨p,hp,rfl⟩;exact .inl (hBK _ h);exact hl p hp) w ⟨hq,hp,fun _ h=>h.elim⟩ hL
  subst hFR hBR
  exact zcg (fun _ _ _ h=>zpo (fun _ _ _ _ h=>⟨_,_,_,_,_,h⟩) h) hm
theorem zjU(I:Ins fC fR fS tC tW tF tE tL bC bR bS z Sh)[Payload]{x0 x1 x2 x3 x4 x5 x6 x7 x8 x9 x10 x11 x12 x13 x14 x15 x16 x17 x18 x19 x20 x21 x22 x23:Int}(hsV:sV=.agg #[.int .i64 x0,.int .i64 x1,.int .i64 x2,.int .i64 x3,.int .i64 x4,.int .i64 x5,.int .i64 x6,.int .i64 x7,.int .i64 x8,.int .i64 x9,.int .i64 x10,.int .i64 x11,.int .i64 x12,.int .i64 x13,.int .i64 x14,.int .i64 x15,.int .i64 x16,.int .i64 x17,.int .i64 x18,.int .i64 x19,.int .i64 x20,.int .i64 x21,.int .i64 x22,.int .i64 x23]){Snd:Nat->(Nat->Prop)->Value->World->Prop}{f0 e0:Nat->Nat}(hQ:zj7 B Q)(hchild0:∀(K:Nat->Prop) (bs:Nat) (l':List (Nat × Obj)),(bs,.cells #[.int .i64 x0,.int .i64 x1,.int .i64 x2,.int .i64 x3,.int .i64 x4,.int .i64 x5] 86)∈l'->(∀ p∈l,p∈l')->(∀ p∈l',K p.1)->∀ w,Hp l' w->zak 119 Wg ch w->(∀ c,K c->c<w.heap.size)->∃ rc,Sit Tryz.prog 119 Wg ch Snd K (fun _=>False) (f0 0) (e0 0) ⟨7,0,0⟩ rc (born Tryz.prog (zcd fC Wg bg bs br bc)) w)(hchild1:∀(K:Nat->Prop) (bs:Nat) (l':List (Nat × Obj)),(bs,.cells #[.int .i64 x6,.int .i64 x7,.int .i64 x8,.int .i64 x9,.int .i64 x10,.int .i64 x11] 86)∈l'->(∀ p∈l,p∈l')->(∀ p∈l',K p.1)->∀ w,Hp l' w->zak 119 Wg ch w->(∀ c,K c->c<w.heap.size)->∃ rc,Sit Tryz.prog 119 Wg ch Snd K (fun _=>False) (f0 1) (e0 1) ⟨7,0,0⟩ rc (born Tryz.prog (zcd fC Wg bg bs br bc)) w)(hchild2:∀(K:Nat->Prop) (bs:Nat) (l':List (Nat × Obj)),(bs,.cells #[.int .i64 x12,.int .i64 x13,.int .i64 x14,.int .i64 x15,.int .i64 x16,.int .i64 x17] 86)∈l'->(∀ p∈l,p∈l')->(∀ p∈l',K p.1)->∀ w,Hp l' w->zak 119 Wg ch w->(∀ c,K c->c<w.heap.size)->∃ rc,Sit Tryz.prog 119 Wg ch Snd K (fun _=>False) (f0 2) (e0 2) ⟨7,0,0⟩ rc (born Tryz.prog (zcd fC Wg bg bs br bc)) w)(hchild3:∀(K:Nat->Prop) (bs:Nat) (l':List (Nat × Obj)),(bs,.cells #[.int .i64 x18,.int .i64 x19,.int .i64 x20,.int .i64 x21,.int .i64 x22,.int .i64 x23] 86)∈l'->(∀ p∈l,p∈l')->(∀ p∈l',K p.1)->∀ w,Hp l' w->zak 119 Wg ch w->(∀ c,K c->c<w.heap.size)->∃ rc,Sit Tryz.prog 119 Wg ch Snd K (fun _=>False) (f0 3) (e0 3) ⟨7,0,0⟩ rc (born Tryz.prog (zcd fC Wg bg bs br bc)) w)(hBK:∀ c,B c->K c)(hKL:∀ c,K c\/S c->¬ LvW Wg ch c)(v9 v22 v23 v24 v25 v26:Value)(hl:∀ p∈l,K p.1\/S p.1)(w:World)(hp:Hp l w)(hL:zak 119 Wg ch w)(hq:Q w)(hlt:∀ c,K c\/S c->c<w.heap.size)(j0:Nat):(zb2 Tryz.prog 119 Wg ch Snd (j0+4) (zbG j0 f0) (zbG j0 e0) (zb1 fR bR Wg ch B Q l gV rV many bg br bc c cs sV) 4) K S (zgq fR bR gV rV sV many 0 bg br bc Wg ch c cs v9 v22 v23 v24 v25 v26) w:=by
 have h3:∀(K S:Nat->Prop) (v9 v22 v23 v24 v25 v26:Value),(∀ c,B c->K c)->(∀ c,K c\/S c->¬ LvW Wg ch c)->zaY Tryz.prog true (zak 119 Wg ch) (ExE Wg true) (fun _ S g w=>zms Tryz.prog 119 Wg ch Snd (zbG j0 f0) (zbG j0 e0) K (j0+3) (zb2 Tryz.prog 119 Wg ch Snd (j0+4) (zbG j0 f0) (zbG j0 e0) (zb1 fR bR Wg ch B Q l gV rV many bg br bc c cs sV) 0) S g w) (fun _ _ _ _=>False) ch K Q l 0 S (zgq fR bR gV rV sV many 3 bg br bc Wg ch c cs v9 v22 v23 v24 v25 v26) :=
  fun K S v9 v22 v23 v24 v25 v26 hB hK=>ze7 I (St1:=(fun K=>MKd Tryz.prog 119 Wg ch (zb1 fR bR Wg ch B Q l gV rV many bg br bc c cs sV) K)) (jn:=j0+3) hQ qi qi (fun w=>by rw[hsV];exact qh) (fun w es=>by rw[hsV];exact qh) (fun K bs l' a1 a2 a3 w a4 a5 a6=>by rw[zaX,zaX];exact hchild3 K bs l' a1 a2 a3 w a4 a5 a6) (fun K v9 v22 v23 v24 v25 v26 hB _=>zpF I hQ hB v9 v22 v23 v24 v25 v26) hB hK v9 v22 v23 v24 v25 v26
 have h2:∀(K S:Nat->Prop) (v9 v22 v23 v24 v25 v26:Value),(∀ c,B c->K c)->(∀ c,K c\/S c->¬ LvW Wg ch c)->zaY Tryz.prog true (zak 119 Wg ch) (ExE Wg true) (fun _ S g w=>zms Tryz.prog 119 Wg ch Snd (zbG j0 f0) (zbG j0 e0) K (j0+2) (zb2 Tryz.prog 119 Wg ch Snd (j0+4) (zbG j0 f0) (zbG j0 e0) (zb1 fR bR Wg ch B Q l gV rV many bg br bc c cs sV) 1) S g w) (fun _ _ _ _=>False) ch K Q l 0 S (zgq fR bR gV rV sV many 2 bg br bc Wg ch c cs v9 v22 v23 v24 v25 v26) :=
  fun K S v9 v22 v23 v24 v25 v26 hB hK=>ze7 I (St1:=(fun K=>zms Tryz.prog 119 Wg ch Snd (zbG j0 f0) (zbG j0 e0) K (j0+3) (zb2 Tryz.prog 119 Wg ch Snd (j0+4) (zbG j0 f0) (zbG j0 e0) (zb1 fR bR Wg ch B Q l gV rV many bg br bc c cs sV) 0))) (jn:=j0+2) hQ qi qi (fun w=>by rw[hsV];exact qh) (fun w es=>by rw[hsV];exact qh) (fun K bs l' a1 a2 a3 w a4 a5 a6=>by rw[zaX,zaX];exact hchild2 K bs l' a1 a2 a3 w a4 a5 a6) (fun K v9 v22 v23 v24 v25 v26 hB hK=>h3 K (fun _=>False) v9 v22 v23 v24 v25 v26 hB (fun d hd=>hK d (hd.elim id fun x=>x.elim))) hB hK v9 v22 v23 v24 v25 v26
 have h1:∀(K S:Nat->Prop) (v9 v22 v23 v24 v25 v26:Value),(∀ c,B c->K c)->(∀ c,K c\/S c->¬ LvW Wg ch c)->zaY Tryz.prog true (zak 119 Wg ch) (ExE Wg true) (fun _ S g w=>zms Tryz.prog 119 Wg ch Snd (zbG j0 f0) (zbG j0 e0) K (j0+1) (zb2 Tryz.prog 119 Wg ch Snd (j0+4) (zbG j0 f0) (zbG j0 e0) (zb1 fR bR Wg ch B Q l gV rV many bg br bc c cs sV) 2) S g w) (fun _ _ _ _=>False) ch K Q l 0 S (zgq fR bR gV rV sV many 1 bg br bc Wg ch c cs v9 v22 v23 v24 v25 v26) :=
  fun K S v9 v22 v23 v24 v25 v26 hB hK=>ze7 I (St1:=(fun K=>zms Tryz.prog 119 Wg ch Snd (zbG j0 f0) (zbG j0 e0) K (j0+2) (zb2 Tryz.prog 119 Wg ch Snd (j0+4) (zbG j0 f0) (zbG j0 e0) (zb1 fR bR Wg ch B Q l gV rV many bg br bc c cs sV) 1))) (jn:=j0+1) hQ qi qi (fun w=>by rw[hsV];exact qh) (fun w es=>by rw[hsV];exact qh) (fun K bs l' a1 a2 a3 w a4 a5 a6=>by rw[zaX,zaX];exact hchild1 K bs l' a1 a2 a3 w a4 a5 a6) (fun K v9 v22 v23 v24 v25 v26 hB hK=>h2 K (fun _=>False) v9 v22 v23 v24 v25 v26 hB (fun d hd=>hK d (hd.elim id fun x=>x.elim))) hB hK v9 v22 v23 v24 v25 v26
 have h0:∀(K S:Nat->Prop) (v9 v22 v23 v24 v25 v26:Value),(∀ c,B c->K c)->(∀ c,K c\/S c->¬ LvW Wg ch c)->zaY Tryz.prog true (zak 119 Wg ch) (ExE Wg true) (fun _ S g w=>zms Tryz.prog 119 Wg ch Snd (zbG j0 f0) (zbG j0 e0) K (j0+0) (zb2 Tryz.prog 119 Wg ch Snd (j0+4) (zbG j0 f0) (zbG j0 e0) (zb1 fR bR Wg ch B Q l gV rV many bg br bc c cs sV) 3) S g w) (fun _ _ _ _=>False) ch K Q l 0 S (zgq fR bR gV rV sV many 0 bg br bc Wg ch c cs v9 v22 v23 v24 v25 v26) :=
  fun K S v9 v22 v23 v24 v25 v26 hB hK=>ze7 I (St1:=(fun K=>zms Tryz.prog 119 Wg ch Snd (zbG j0 f0) (zbG j0 e0) K (j0+1) (zb2 Tryz.prog 119 Wg ch Snd (j0+4) (zbG j0 f0) (zbG j0 e0) (zb1 fR bR Wg ch B Q l gV rV many bg br bc c cs sV) 2))) (jn:=j0+0) hQ qi qi (fun w=>by rw[hsV];exact qh) (fun w es=>by rw[hsV];exact qh) (fun K bs l' a1 a2 a3 w a4 a5 a6=>by rw[zaX,zaX];exact hchild0 K bs l' a1 a2 a3 w a4 a5 a6) (fun K v9 v22 v23 v24 v25 v26 hB hK=>h1 K (fun _=>False) v9 v22 v23 v24 v25 v26 hB (fun d hd=>hK d (hd.elim id fun x=>x.elim))) hB hK v9 v22 v23 v24 v25 v26
 exact h0 K S v9 v22 v23 v24 v25 v26 hBK hKL hl w hp hL hq hlt
end
end R2
namespace R2
open Go Go.Conc Go.ConcN Go.RowKit Go.Conc.Lib Go.ConcR.Gen Go.ConcN.Gen
open Go.ConcR (KK wgBlock WgAt stA smA rd wr mk Payload Aside2 DC0)
noncomputable abbrev zrz(bR:Func):Code:=match zcY bR with|.seq _ (.seq _ (.seq _ (.seq (.seq _ (.block _ (.loop c))) _)))=>c|_=>.skip
noncomputable abbrev zjI(bR:Func):Code:=match zcY bR with|.seq _ (.seq _ (.seq _ (.seq (.seq _ (.block _ (.loop _))) c)))=>c|_=>.skip
theorem zdu{P:Prop}(h:P:=by
  intro buf
  induction buf with
  | nil =>
   intro arr cap s r tm u0 u1 u2 u3 u4 u5 u6 u7 u8 u9 u11 u12 u13 u14 u15 u16 u17 u18 u19 u20 u21 u22 u23 u24 u25 u26 u27 u28 u29 u30 u32 u33 u34 u35 u36 u37 u38 u39 u40 u41 u hbuf hsz hcov hc ho hk
   simp only[zrz,zcY,zjI,Tryz.f58,Tryz.f37]
   refine zaq.way hG (ch:=0) (K:=fun _=>False) (S:=fun e=>e=bo) (l:=[(bo,.cells arr tE)]) (lx:=[(ch,.chan cap #[] true s r tm)]) (fun p h=>by simp at h;subst h;exact ho) (fun p h=>by simp at h;subst h;exact .inr rfl) (fun p h=>by simp at h;subst h;exact hc) (fun p h e=>by simp at h;subst h;exact hne e.symm) (fun _ h=>h.elim) (fun e he=>?_) ?_
   ·rcases he with he|rfl
    ·exact he.elim
    ·exact⟨(gei ho).1,hSh,fun h=>h⟩
   refine zag.sq ?_
   refine zag.rg ?_
   simp only[rgs,Nat.reduceAdd]
   refine zag.stop fun hl1 w1 hp1 _ hlt1=>?_
   intro hsz1 hnew1 hx1 hKS1 _ hkept1 ht1 ho1 hu1
   refine zaq.recvNone hG rfl (hx1.at (c:=ch) mcs) (fun d=>by rw[stepG_comm rfl rfl qi (zc2 rfl rfl).1];unfold listed;rw[(zc2 rfl rfl).2,seen_none]) fun d=>?_
   rw[zd0]
   simp only[commResult]
   walk_nrm
   refine zaq.way hG (ch:=0) (K:=fun _=>False) (S:=fun e=>e=bo) (l:=[(bo,.cells arr tE)]) (lx:=[]) (hp1.on d) (fun p h=>by simp at h;subst h;exact .inr rfl) (fun _ h=>by cases h) (fun _ h=>by cases h) (fun _ h=>h.elim) (fun e he=>?_) ?_
   ·rcases he with he|rfl
    ·exact he.elim
    ·exact⟨hlt1 _ (.inr rfl),hSh,fun h=>h⟩
   refine zag.va (v:=.bool false) ?_
   walk_nrm
   refine zag.re ?_
   refine zag.sq ?_
   refine zag.ctl rfl (fun _=>stepG_cond (t:=false) rfl) ?_
   simp only[Bool.false_eq_true,↓reduceIte]
   refine zag.ctl rfl (fun _=>stepG_exit rfl) ?_
   refine zag.sq ?_
   refine zag.rg ?_
   simp only[rgs,Nat.reduceAdd]
   refine zag.va (v:=.slice (some ⟨bo,0,none⟩) many many) ?_
   walk_nrm
   refine zag.va (v:=.slice (some ⟨bo,0,none⟩) many many) ?_
   walk_nrm
   refine zag.re ?_
   refine zag.ctl rfl (fun _=>stepG_ret') ?_
   refine zag.ctl (g':=G (c.finish (.slice (some ⟨bo,0,none⟩) many many)) cs) rfl (fun w=>by rw[stepG_leave rfl rfl hRf (results_tmp hRr _ _ w) (events_results_tmp hRr _ _)];rfl) ?_
   refine zag.stop fun hl3 w3 hp3 _ hlt3=>?_
   intro hsz3 hnew3 hx3 hKS3 _ hkept3 ht3 ho3 hu3
   have hcov2:∀ k:Nat,∃ y,k<many->V k y/\arr[k]?=some y:=fun k=>by
    by_cases h:k<many
    ·rcases hcov k h with ⟨y,h1,h2⟩|⟨y,_,h2⟩
     ·exact⟨y,fun _=>⟨h1,h2⟩⟩
     ·simp at h2
    ·exact⟨undef,fun q=>absurd q h⟩
   obtain⟨xs,hxs⟩:∃ xs:Nat->Value,∀ k,k<many->V k (xs k)/\arr[k]?=some (xs k):=⟨fun k=>(hcov2 k).choose,fun k=>(hcov2 k).choose_spec⟩
   refine hfin w3 xs ?_ (fun k h=>(hxs k h).1) ?_
   ·obtain⟨a1,a2,a3,a4,a5⟩:=hk
    have huo:bo<u.heap.size:=(gei ho).1
    have hat:(w1.at d).heap.size=w1.heap.size:=rfl
    refine⟨fun e he=>?_,by rw[ht3];exact ht1.trans a2,by rw[ho3];exact ho1.trans a3,by rw[hu3];exact hu1.trans a4,qg⟩
    have:=hB0 e he
    rw[hkept3 e qg qg]
    exact(hkept1 e qg qg).trans (a1 e he)
   ·rw[hp3.at mcs]
    refine congrArg (fun x=>some (Obj.cells x tE)) (Array.ext (by simp[hsz]) fun j h1 h2=>?_)
    have:=(hxs j qg).2
    rw[Array.getElem?_eq_getElem h1] at this
    simpa using this
  | cons x buf ih =>
   intro arr cap s r tm u0 u1 u2 u3 u4 u5 u6 u7 u8 u9 u11 u12 u13 u14 u15 u16 u17 u18 u19 u20 u21 u22 u23 u24 u25 u26 u27 u28 u29 u30 u32 u33 u34 u35 u36 u37 u38 u39 u40 u41 u hbuf hsz hcov hc ho hk
   obtain⟨k,y,hkm,hVy,rfl⟩:=hbuf x mcs
   obtain⟨xa,xn,xc,rfl⟩:=hV k y hVy
   simp only[zrz,zcY,Tryz.f58,Tryz.f37]
   refine zaq.way hG (ch:=0) (K:=fun _=>False) (S:=fun e=>e=bo) (l:=[(bo,.cells arr tE)]) (lx:=[(ch,.chan cap (.agg #[.int .i64 k,shp xa xn xc]::buf).toArray true s r tm)]) (fun p h=>by simp at h;subst h;exact ho) (fun p h=>by simp at h;subst h;exact .inr rfl) (fun p h=>by simp at h;subst h;exact hc) (fun p h e=>by simp at h;subst h;exact hne e.symm) (fun _ h=>h.elim) (fun e he=>?_) ?_
   ·rcases he with he|rfl
    ·exact he.elim
    ·exact⟨(gei ho).1,hSh,fun h=>h⟩
   refine zag.sq ?_
   refine zag.rg ?_
   simp only[rgs,Nat.reduceAdd]
   refine zag.stop fun hl1 w1 hp1 _ hlt1=>?_
   intro hsz1 hnew1 hx1 hKS1 _ hkept1 ht1 ho1 hu1
   refine zaq.recv hG rfl (hx1.at (c:=ch) mcs) qk (fun d=>by rw[stepG_comm rfl rfl qi (zc2 rfl rfl).1];unfold listed;rw[(zc2 rfl rfl).2,seen_none]) fun d=>?_
   have e1:((.agg #[.int .i64 k,shp xa xn xc]:Value)::buf).toArray.getD 0 undef=.agg #[.int .i64 k,shp xa xn xc]:=qk
   have e2:((.agg #[.int .i64 k,shp xa xn xc]:Value)::buf).toArray.extract 1 ((.agg #[.int .i64 k,shp xa xn xc]:Value)::buf).toArray.size=buf.toArray:=qk
   rw[e1,e2]
   have hchl:ch<w1.heap.size:=(gei (hx1.at (c:=ch) mcs)).1
   obtain⟨w2,hw2⟩:∃ w2,w2=(w1.at d).setChan ch cap buf.toArray true s (r+1) tm:=⟨_,rfl⟩
   have hc2:w2.heap[ch]?=some (.chan cap buf.toArray true s (r+1) tm):=by rw[hw2];simp[World.setChan,World.at,hchl]
   have hk2:∀ e,e≠ch->w2.heap[e]?=w1.heap[e]?:=fun e he=>by rw[hw2];exact zbr (w1.at d) cap buf.toArray true s (r+1) tm he
   have hs2:w2.heap.size=w1.heap.size/\w2.tape=w1.tape/\w2.os=w1.os/\w2.output=w1.output:=by rw[hw2];exact⟨by simp[World.setChan,World.at],rfl,rfl,rfl⟩
   rw[<- hw2]
   clear hw2 e1 e2
   have hbo2:w2.heap[bo]?=some (.cells arr tE):=(hk2 bo hne).trans (hp1.at mcs)
   have hbol:bo<w2.heap.size:=(gei hbo2).1
   rw[zd0]
   simp only[commResult]
   walk_nrm
   refine zaq.way hG (ch:=0) (K:=fun _=>False) (S:=fun e=>e=bo) (l:=[(bo,.cells arr tE)]) (lx:=[(ch,.chan cap buf.toArray true s (r+1) tm)]) (fun p h=>by simp at h;subst h;exact hbo2) (fun p h=>by simp at h;subst h;exact .inr rfl) (fun p h=>by simp at h;subst h;exact hc2) (fun p h e=>by simp at h;subst h;exact hne e.symm) (fun _ h=>h.elim) (fun e he=>?_) ?_
   ·rcases he with he|rfl
    ·exact he.elim
    ·exact⟨hbol,hSh,fun h=>h⟩
   refine zag.va (v:=.bool true) ?_
   walk_nrm
   refine zag.re ?_
   refine zag.sq ?_
   refine zag.ctl rfl (fun _=>stepG_cond (t:=true) rfl) ?_
   simp only[↓reduceIte]
   refine zag.ctl rfl (fun _=>stepG_skip) ?_
   refine zag.ctl rfl (fun _=>stepG_block) ?_
   refine zag.sq ?_
   refine zag.rg ?_
   simp only[rgs,Nat.reduceAdd]
   refine zag.va (v:=.agg #[.int .i64 k,shp xa xn xc]) ?_
   walk_nrm
   refine zag.new hLa rfl rfl qi (V:=fun c=>.pointer (some ⟨c,0,none⟩)) (obj:=.cells #[.int .i64 0,zE] tW) (fun w hp=>qo) (fun _ w hp e he=>by simp[go_sem] at he) fun b11 hK_b11 hS_b11=>?_
   walk_nrm
   refine zag.put (l':=[(b11,.cells #[.int .i64 k,shp xa xn xc] tW),(bo,.cells arr tE)]) (c:=b11) (obj:=.cells #[.int .i64 k,shp xa xn xc] tW) rfl rfl qi (.inr rfl) (fun _ _ _ h=>h) (fun w hp=>⟨_,zhs (ty:=tW) (cells:=#[.int .i64 k,shp xa xn xc]) rfl rfl rfl (hp.at mcs) zfB rfl qm,(zaB (hp.at mcs)).1,(zaB (hp.at mcs)).2⟩) (fun _ w hp e he=>?_) (fun p hp=>?_) ?_
   ·obtain⟨q,rfl⟩:=zkk (ty:=tW) (cells:=#[.int .i64 k,shp xa xn xc]) rfl rfl rfl (hp.at mcs) zfB rfl qm e he
    exact Or.inl ⟨_,_,rfl,Or.inl (Or.inr rfl)⟩
   ·rcases List.mem_cons.1 hp with rfl|hp
    ·exact .inl rfl
    ·exact .inr ⟨mcm hp,fun e=>by simp at hp;subst hp;exact hS_b11 e.symm⟩
   walk_nrm
   refine zag.re ?_
   refine zag.rg ?_
   simp only[rgs,Nat.reduceAdd]
   refine zag.va (v:=.slice (some ⟨bo,0,none⟩) many many) ?_
   walk_nrm
   refine zag.va (v:=.pointer (some ⟨b11,0,none⟩)) ?_
   walk_nrm
   refine zag.val rfl rfl qi (v:=.int .i64 k) (fun w hp=>?_) (fun hl w hp e he=>?_) ?_
   ·have c0:=hp.cell mcs 0 rfl
    go_simp
   ·have c0:=hp.cell mcs 0 rfl
    simp[go_sem, *] at he
    subst he
    exact zaG hl mcs _
   walk_nrm
   refine zag.va (v:=.pointer (some ⟨b11,1,none⟩)) ?_
   walk_nrm
   refine zag.val rfl rfl qi (v:=shp xa xn xc) (fun w hp=>?_) (fun hl w hp e he=>?_) ?_
   ·have c0:=hp.cell mcs 1 rfl
    go_simp
   ·have c0:=hp.cell mcs 1 rfl
    simp[go_sem, *] at he
    subst he
    exact zaG hl mcs _
   walk_nrm
   have hk0:(0:Int)<=(k:Int):=qg
   have hk1:(k:Int)<(many:Int):=qg
   refine zag.val rfl rfl qi (v:=.pointer (some ⟨bo,k,none⟩)) (fun w hp=>qo) (fun _ w hp e he=>by simp[go_sem, *] at he) ?_
   walk_nrm
   have hka:k<arr.size:=qg
   refine zag.put (l':=[(bo,.cells (arr.setIfInBounds k (shp xa xn xc)) tE)]) (c:=bo) (obj:=.cells (arr.setIfInBounds k (shp xa xn xc)) tE) rfl rfl qi (.inl rfl) (fun _ _ _ h=>h) (fun w hp=>⟨_,zkJ (ty:=tE) (i:=k) rfl rfl rfl rfl rfl (hp.at (mcm mcs)) zfA hka,(zaB (hp.at (mcm mcs))).1,(zaB (hp.at (mcm mcs))).2⟩) (fun _ w hp e he=>?_) (fun p hp=>.inl (by simpa using hp)) ?_
   ·obtain⟨q,rfl⟩:=zmV (ty:=tE) (i:=k) rfl rfl rfl rfl rfl (hp.at (mcm mcs)) zfA hka e he
    exact Or.inl ⟨_,_,rfl,Or.inl (Or.inl rfl)⟩
   walk_nrm
   refine zag.re ?_
   refine zag.ctl rfl (fun _=>stepG_inBlock) ?_
   refine zag.ctl rfl (fun _=>stepG_inLoop) ?_
   refine zag.stop fun hl3 w3 hp3 _ hlt3=>?_
   intro hsz3 hnew3 hx3 hKS3 _ hkept3 ht3 ho3 hu3
   refine ih _ cap s (r+1) tm _ _ _ _ _ _ _ _ _ _ _ _ _ _ _ _ _ _ _ _ _ _ _ _ _ _ _ _ _ _ _ _ _ _ _ _ _ _ _ _ w3 (fun x hx=>hbuf x (mcm hx)) (by simpa using hsz) (fun j hj=>?_) (hx3.at mcs) (hp3.at mcs) ?_
   ·by_cases e:j=k
    ·subst e
     exact .inl ⟨_,hVy,by rw[Array.getElem?_setIfInBounds_self_of_lt hka]⟩
    ·rw[Array.getElem?_setIfInBounds_ne (Ne.symm e)]
     refine(hcov j hj).imp id fun ⟨y2,q1,h⟩=>?_
     rcases List.mem_cons.1 h with h|h
     ·exfalso;apply e;simp at h;omega
     ·exact⟨y2,q1,h⟩
   ·obtain⟨a1,a2,a3,a4,a5⟩:=hk
    have huo:bo<u.heap.size/\ch<u.heap.size:=⟨(gei ho).1,(gei hc).1⟩
    refine⟨fun e he=>?_,by rw[ht3,hs2.2.1,ht1,a2],by rw[ho3,hs2.2.2.1,ho1,a3],by rw[hu3,hs2.2.2.2,hu1,a4],qg⟩
    have:=hB0 e he
    rw[hkept3 e qg qg,hk2 e (fun q=>hch (q ▸ he)),hkept1 e qg qg,a1 e he]):P:=h
namespace R1
abbrev fC:Nat:=85
abbrev fR:Nat:=58
abbrev tC:Nat:=144
abbrev tW:Nat:=147
abbrev tF:Nat:=108
abbrev tE:Nat:=3
abbrev zE:Value:=.int .i64 0
noncomputable abbrev bR:Func:=Tryz.f58
abbrev shp(xa:Int)(_ _:Nat):Value:=.int .i64 xa
theorem zc2{o:Oper}{ch:Nat}(hop:o.op=.recv 144 x true)(hx:a.eval x=.chan (some ch)):(execOp a.eval o).run Tryz.prog w=.ok (.comm #[rcase ch (.agg #[.int .i64 0,.int .i64 0])] true (.recv true)) w/\(execOp a.eval o).events Tryz.prog w #[]=#[]:=by
 constructor
 ·unfold execOp
  simp[hop,hx,rcase]
 ·unfold execOp
  simp[hop,hx]
theorem zfB:(Tryz.prog.info? 147).map (·.size)=some 2:=qh
theorem zfA:(Tryz.prog.info? 3).map (·.size)=some 1:=qh
theorem hRf:Tryz.prog.funcs[58]?=some Tryz.f58:=func58
abbrev hRr:=results58
section
variable{Goal:Machine->Trace->Prop}{Shun:Nat->Prop}{c:Frame}{cs:List Frame}{B:Nat->Prop}{w0:World}{ch bo many:Nat}{V:Nat->Value->Prop}
theorem zke(hG:zba Tryz.prog Goal)(hB0:∀ e,B e->e<w0.heap.size)(hbo:w0.heap.size<=bo)(hch:¬ B ch)(hV:∀ k y,V k y->∃ xa xn xc,y=shp xa xn xc)(hne:bo≠ch)(hSh:¬ Shun bo)(hLa:∀(w:World) (o:Obj),(fun _:World=>True) w->(fun _:World=>True) (w.alloc o):=fun _ _ h=>h)(hfin:∀(u':World) (xs:Nat->Value),zcb B w0 u'->(∀ k,k<many->V k (xs k))->u'.heap[bo]?=some (.cells (Array.ofFn fun k:Fin many=>xs k) 3)->zaq Tryz.prog Goal Shun (fun _=>False) (G (c.finish (.slice (some ⟨bo,0,none⟩) many many)) cs) u') :
  ∀(buf:List Value) (arr:Array Value) (cap s r:Nat) (tm:Bool) (u0 u1 u2 u3 u4 u5 u6 u7 u8 u9 u11 u12 u13 u14 u15 u16 u17 u18 u19 u20 u21 u22 u23 u24 u25 u26 u27 u28 u29 u30 u32 u33 u34 u35 u36 u37 u38 u39 u40 u41:Value) (u:World),(∀ x∈buf,∃ (k:Nat) (y:Value),k<many/\V k y/\x=.agg #[.int .i64 k,y])->arr.size=many->(∀ k:Nat,k<many->(∃ y,V k y/\arr[k]?=some y)\/∃ y,V k y/\(.agg #[.int .i64 k,y]:Value)∈buf) ->
   u.heap[ch]?=some (.chan cap buf.toArray true s r tm)->u.heap[bo]?=some (.cells arr 3)->zcb B w0 u->zaq Tryz.prog Goal Shun (fun _=>False) (G ((base 58).at ⟨#[u0,u1,u2,u3,u4,u5,u6,u7,u8,u9,.slice (some ⟨bo,0,none⟩) many many,u11,u12,u13,u14,u15,u16,u17,u18,u19,u20,u21,u22,u23,u24,u25,u26,u27,u28,u29,u30,.chan (some ch),u32,u33,u34,u35,u36,u37,u38,u39,u40,u41],[]⟩ [.code (zrz Tryz.f58),.inLoop (zrz Tryz.f58),.inBlock 2,.code (zjI Tryz.f58)]) (c::cs)) u:=zdu
end
end R1
abbrev fC:Nat:=63
abbrev fR:Nat:=37
abbrev tC:Nat:=109
abbrev tW:Nat:=125
abbrev tF:Nat:=35
abbrev tE:Nat:=26
abbrev zE:Value:=.slice none 0 0
noncomputable abbrev bR:Func:=Tryz.f37
abbrev shp(xa:Option Addr)(xn xc:Nat):Value:=.slice xa xn xc
theorem zc2{o:Oper}{ch:Nat}(hop:o.op=.recv 109 x true)(hx:a.eval x=.chan (some ch)):(execOp a.eval o).run Tryz.prog w=.ok (.comm #[rcase ch (.agg #[.int .i64 0,.slice none 0 0])] true (.recv true)) w/\(execOp a.eval o).events Tryz.prog w #[]=#[]:=by
 constructor
 ·unfold execOp
  simp[hop,hx,rcase]
 ·unfold execOp
  simp[hop,hx]
theorem zfB:(Tryz.prog.info? 125).map (·.size)=some 2:=qh
theorem zfA:(Tryz.prog.info? 26).map (·.size)=some 1:=qh
theorem hRf:Tryz.prog.funcs[37]?=some Tryz.f37:=func37
abbrev hRr:=results37
section
variable{Goal:Machine->Trace->Prop}{Shun:Nat->Prop}{c:Frame}{cs:List Frame}{B:Nat->Prop}{w0:World}{ch bo many:Nat}{V:Nat->Value->Prop}
theorem zke(hG:zba Tryz.prog Goal)(hB0:∀ e,B e->e<w0.heap.size)(hbo:w0.heap.size<=bo)(hch:¬ B ch)(hV:∀ k y,V k y->∃ xa xn xc,y=shp xa xn xc)(hne:bo≠ch)(hSh:¬ Shun bo)(hLa:∀(w:World) (o:Obj),(fun _:World=>True) w->(fun _:World=>True) (w.alloc o):=fun _ _ h=>h)(hfin:∀(u':World) (xs:Nat->Value),zcb B w0 u'->(∀ k,k<many->V k (xs k))->u'.heap[bo]?=some (.cells (Array.ofFn fun k:Fin many=>xs k) 26)->zaq Tryz.prog Goal Shun (fun _=>False) (G (c.finish (.slice (some ⟨bo,0,none⟩) many many)) cs) u') :
  ∀(buf:List Value) (arr:Array Value) (cap s r:Nat) (tm:Bool) (u0 u1 u2 u3 u4 u5 u6 u7 u8 u9 u11 u12 u13 u14 u15 u16 u17 u18 u19 u20 u21 u22 u23 u24 u25 u26 u27 u28 u29 u30 u32 u33 u34 u35 u36 u37 u38 u39 u40 u41:Value) (u:World),(∀ x∈buf,∃ (k:Nat) (y:Value),k<many/\V k y/\x=.agg #[.int .i64 k,y])->arr.size=many->(∀ k:Nat,k<many->(∃ y,V k y/\arr[k]?=some y)\/∃ y,V k y/\(.agg #[.int .i64 k,y]:Value)∈buf) ->
   u.heap[ch]?=some (.chan cap buf.toArray true s r tm)->u.heap[bo]?=some (.cells arr 26)->zcb B w0 u->zaq Tryz.prog Goal Shun (fun _=>False) (G ((base 37).at ⟨#[u0,u1,u2,u3,u4,u5,u6,u7,u8,u9,.slice (some ⟨bo,0,none⟩) many many,u11,u12,u13,u14,u15,u16,u17,u18,u19,u20,u21,u22,u23,u24,u25,u26,u27,u28,u29,u30,.chan (some ch),u32,u33,u34,u35,u36,u37,u38,u39,u40,u41],[]⟩ [.code (zrz Tryz.f37),.inLoop (zrz Tryz.f37),.inBlock 2,.code (zjI Tryz.f37)]) (c::cs)) u:=zdu
