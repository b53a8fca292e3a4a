/- Part. -/
import Derived.Conc.WgGenN2
import Derived.Conc.WgGenWait
import Derived.Test.YthfhlgdeghnggaaGreatEAc
set_option maxHeartbeats 8000000
set_option maxRecDepth 100000
namespace Go.Proofs.YthfhlgdeghnggaaGreat
variable{a:Addr}{es:Array Event}{g:Goroutine}{Stop:Goroutine->Wq}{σ:Nat}{B:Np}{w:World}{D:World->World->Array Event->Prop}{R:World->Wq}
section
open Go Go.Conc Go.ConcN Go.RowKit Go.Conc.Lib Go.ConcR.Gen Go.ConcN.Gen
open Go.ConcR (KK wgBlock WgAt stA smA rd wr mk Payload Aside2 DC0)
def RLv(Lv:Wq)(w w₁:World):Prop:=Lv w->Lv w₁
theorem zab{Lv:Wq}{w₁:World}(h:Lv w)(r:RLv Lv w w₁):Lv w₁:=r h
section
variable(P:Program)(Lv:Wq)(Wg:Nat)(ty:TypeId)
abbrev GoL(Stop:Goroutine->Wq)(m:Nat)(g:Goroutine)(w:World):Prop:=Goes P true (RLv Lv) DC0 Stop m g w
def zug(Nx:Goroutine->Wq)(g:Goroutine)(w:World):Prop:=g.status=.running/\∃ g',stepG P true g w=.go g' w #[mk .enable]/\∃ m,GoL P Lv Nx m g' w
def zuu(Nx:Goroutine->Wq)(g:Goroutine)(w:World):Prop:=g.status=.running/\∃ g',stepG P true g w=.go g' w #[⟨.mark (.read (smA Wg)),false,true⟩]/\∃ m,GoL P Lv (zug P Lv Nx) m g' w
def zue(Nx:Goroutine->Wq)(g:Goroutine)(w:World):Prop:=g.status=.running/\∀ v:Nat,v<2147483647->WgAt ty Wg w (v * KK) 0 ->
  ∃ g',stepG P true g w=.go g' (w.setCell (stA Wg) (.int .u64 ((v+1) * KK))) #[rd (stA Wg),wr (stA Wg)]/\((∃ m,GoL P Lv (zuu P Lv Wg Nx) m g' (w.setCell (stA Wg) (.int .u64 ((v+1) * KK))))\/∃ m,GoL P Lv (zug P Lv Nx) m g' (w.setCell (stA Wg) (.int .u64 ((v+1) * KK))))
def zuf(Nx:Goroutine->Wq)(g:Goroutine)(w:World):Prop:=g.status=.running/\∃ g',stepG P true g w=.go g' w #[mk .disable]/\∃ m,GoL P Lv (zue P Lv Wg ty Nx) m g' w
end
theorem zal.wg_ne{ty:TypeId}{Wg ch:Nat}(h:zal ty Wg ch w):Wg≠ch:=by
 obtain⟨⟨st,sm,hw⟩,cap,buf,s,r,tm,hc⟩:=h
 rintro rfl
 unfold WgAt wgBlock at hw
 rw[hw] at hc
 cases hc
theorem zal.set{ty:TypeId}{Wg ch:Nat}(h:zal ty Wg ch w){v:Value}(ha:a.block=Wg)(hw:WgLive ty Wg (w.setCell a v)):zal ty Wg ch (w.setCell a v):=by
 refine⟨hw,?_⟩
 obtain⟨cap,buf,s,r,tm,hc⟩:=h.2
 refine⟨cap,buf,s,r,tm,?_⟩
 rw[(aside_setCell w a v).block ch (by rw[ha];exact fun q=>h.wg_ne q.symm)]
 exact hc
abbrev zun(Wg:Nat):Array Value:=#[.pointer (xA Wg),J 1,undef,undef,undef,undef,undef,undef,undef,undef,undef,undef,undef,undef,undef,undef,undef,undef,undef,undef,undef,undef,undef,undef,undef,undef,undef,undef,undef,undef,undef,undef,undef,undef,undef,undef,undef,undef,undef,undef,undef,undef,undef,undef,undef,undef,undef,undef,undef,undef,undef,undef,undef,undef,undef,undef,undef,undef,undef,undef,undef,undef,undef,undef,undef,undef,undef,undef,undef,undef,undef,undef,undef,undef,undef,undef,undef,undef,undef,undef,undef,undef,undef,undef,undef,undef,undef,undef,undef,undef,undef,undef,undef,undef,undef,undef,undef,undef,undef,undef,undef,undef,undef,undef,undef,undef,undef,undef,undef,undef,undef,undef,undef,undef,undef,undef,undef]
section
variable{L:WgLink}{Wg ch:Nat}{b₀:Frame}{a₀:Act}{ops₀:Array Oper}{i₀:Nat}{rest₀:List Nat}{k₀:List Item}{cs:List Frame}
theorem zqi{P:Program}(H:WgLib P L)(w:World)(hF:zal L.tWg Wg ch w) :
  GoL P (zal L.tWg Wg ch) (zuf P (zal L.tWg Wg ch) Wg L.tWg (fun g w=>g=G (b₀.at (a₀.put ((ops₀[i₀]?).bind (·.dst)) (.tuple #[])) (.inRegion ops₀ rest₀::k₀)) cs/\zal L.tWg Wg ch w)) 12
   (G ((base L.add).at ⟨zun Wg,[]⟩ [.code (body_add L)]) (b₀.at a₀ (.inRegion ops₀ (i₀::rest₀)::k₀)::cs)) w:=by
 lib_facts
 simp only[zun,body_add,addFn,Option.getD_some]
 u_c stepG_seq zab hF
 u_cond true zab hF
 iterate 2 (u_c stepG_seq zab hF)
 u_reg zab hF
 iterate 2 (u_op zab hF)
 u_c stepG_region_end zab hF
 u_cond false zab hF
 u_c stepG_skip zab hF
 u_c stepG_seq zab hF
 u_reg zab hF
 refine Goes.stop (fun w₁ h₁=>?_)
 replace hF:=zab hF h₁
 clear h₁
 refine⟨rfl,_,stepG_mark0 .disable qm rfl rfl (by k_ne) rfl H.f_disable (x_disable_n L) (x_disable_b L) (x_disable_x L) (x_disable_f L),40,?_⟩
 walk_nrm
 u_c stepG_region_end zab hF
 u_reg zab hF
 u_defer zab hF
 u_c stepG_region_end zab hF
 u_c stepG_seq zab hF
 u_reg zab hF
 u_op zab hF
 u_c stepG_region_end zab hF
 iterate 2 (u_c stepG_seq zab hF)
 u_reg zab hF
 u_bub zab hF
 u_c stepG_region_end zab hF
 u_cond false zab hF
 u_c stepG_skip zab hF
 u_c stepG_seq zab hF
 u_reg zab hF
 iterate 6 (u_op zab hF)
 u_call H.f_uAdd (nm_uAdd L) uAddFn zab hF
 u_c stepG_seq zab hF
 u_reg zab hF
 u_op zab hF
 u_c stepG_region_end zab hF
 u_c stepG_seq zab hF
 u_reg zab hF
 iterate 4 (u_op zab hF)
 refine Goes.stop (fun w₂ h₁=>?_)
 replace hF:=zab hF h₁
 clear h₁
 refine⟨rfl,fun v hv hw=>?_⟩
 rcases Nat.eq_zero_or_pos v with rfl|h0
 ·replace hw:WgAt L.tWg Wg w₂ 0 0:=by simpa using hw
  have z:(((0:Nat):Int)+1) * KK=KK:=qm
  rw[z]
  have e0:IntKind.u64.wrap (0+4294967296)=KK:=qj
  refine⟨_,(stepG_add_atomic rfl rfl (by k_ne) rfl H.f_addU64 (x_addU64_n L) (x_addU64_b L) (x_addU64_x L) .u64 (x_addU64_f L) rfl rfl hw.cellSt (hw.thaw 0)).trans (by rw[e0];rfl),.inl ⟨110,?_⟩⟩
  replace hF:zal L.tWg Wg ch (w₂.setCell (stA Wg) (.int .u64 KK)):=hF.set rfl ⟨_,_,hw.setSt _⟩
  clear hw
  simp only[KK] at hF ⊢
  walk_nrm
  u_op zab hF
  u_c stepG_region_end zab hF
  u_c stepG_ret' zab hF
  u_leave1 H.f_uAdd zab hF
  u_op zab hF
  u_c stepG_region_end zab hF
  iterate 2 (u_c stepG_seq zab hF)
  u_reg zab hF
  iterate 4 (u_op zab hF)
  iterate 2 (u_skip zab hF)
  u_op zab hF
  u_c stepG_region_end zab hF
  u_cond false zab hF
  u_c stepG_skip zab hF
  u_c stepG_seq zab hF
  u_reg zab hF
  iterate 4 (u_op zab hF)
  u_c stepG_region_end zab hF
  u_c stepG_seq zab hF
  u_reg zab hF
  iterate 4 (u_op zab hF)
  u_c stepG_region_end zab hF
  iterate 2 (u_c stepG_seq zab hF)
  u_reg zab hF
  iterate 10 (u_op zab hF)
  u_c stepG_region_end zab hF
  u_cond true zab hF
  u_reg zab hF
  iterate 3 (u_op zab hF)
  u_conv H.underlying_tPU32 H.room_tU32 (WgLive.cell1 hF.1).choose_spec zab hF
  refine Goes.stop (fun w₃ h₁=>?_)
  replace hF:=zab hF h₁
  clear h₁
  refine⟨rfl,_,stepG_markAt .read qm rfl rfl (by k_ne) rfl H.f_raceRead (x_raceRead_n L) (x_raceRead_b L) (x_raceRead_x L) (x_raceRead_f L) (ad:=(O Wg 1)) (by simp[Act.eval]),80,?_⟩
  walk_nrm
  u_c stepG_region_end zab hF
  iterate 2 (u_c stepG_seq zab hF)
  u_reg zab hF
  iterate 2 (u_op zab hF)
  u_c stepG_region_end zab hF
  u_cond false zab hF
  u_c stepG_skip zab hF
  iterate 2 (u_c stepG_seq zab hF)
  u_reg zab hF
  iterate 3 (u_op zab hF)
  iterate 2 (u_skip zab hF)
  iterate 2 (u_op zab hF)
  iterate 4 (u_skip zab hF)
  u_op zab hF
  u_c stepG_region_end zab hF
  u_cond false zab hF
  u_c stepG_skip zab hF
  iterate 2 (u_c stepG_seq zab hF)
  u_reg zab hF
  iterate 3 (u_op zab hF)
  iterate 2 (u_skip zab hF)
  u_op zab hF
  u_c stepG_region_end zab hF
  u_cond true zab hF
  u_c stepG_ret' zab hF
  refine Goes.stop (fun w₄ h₁=>?_)
  replace hF:=zab hF h₁
  clear h₁
  refine⟨rfl,_,stepG_unwind_entry (v:=.tuple #[]) (evs:=#[mk .enable]) rfl H.f_enable (x_enable_n L) (x_enable_b L) (x_enable_x L) (x_enable_f L) (by simp[Extern.Race.none_]) (by simp[mk]) (by simp[mk]),2,?_⟩
  u_leave0 H.f_add zab hF
  exact Goes.stop fun _ h=>⟨rfl,zab hF h⟩
 ·obtain⟨V,hV⟩:∃ V:Int,V=(v:Int)+1:=⟨_,rfl⟩
  obtain⟨S,hS⟩:∃ S:Int,S=V * KK:=⟨_,rfl⟩
  have eS:IntKind.u64.wrap ((v:Int) * KK+4294967296)=S:=by rw[IntKind.wrap_u64,hS,hV];simp only[KK];omega
  rw[<- hV,<- hS]
  have a1:S / 4294967296=V:=by rw[hS];simp only[KK];omega
  have b1:bits .and .u64 S 2147483648=0:=by rw[hS,hV];have:=st_flag (v+1) 0 qg qg;simpa [KK] using this
  have b2:bits .and .u64 S 2147483647=0:=by rw[hS,hV];have:=st_waiters (v+1) 0 qg qg;simpa [KK] using this
  have c1:IntKind.i32.wrap V=V:=by rw[IntKind.wrap_i32];omega
  have h1:1<V:=qg
  have h2:V<2147483648:=qg
  have q1:(V == 1)=false:=qn
  have q2:decide (V=1)=false:=decide_eq_false qg
  have q3:decide (V<0)=false:=decide_eq_false qg
  have q4:decide (0<V)=true:=decide_eq_true qg
  have q5:(V == 0)=false:=qn
  have q6:decide (V=0)=false:=decide_eq_false qg
  refine⟨_,(stepG_add_atomic rfl rfl (by k_ne) rfl H.f_addU64 (x_addU64_n L) (x_addU64_b L) (x_addU64_x L) .u64 (x_addU64_f L) rfl rfl hw.cellSt (hw.thaw 0)).trans (by rw[eS];rfl),.inr ⟨110,?_⟩⟩
  replace hF:zal L.tWg Wg ch (w₂.setCell (stA Wg) (.int .u64 S)):=hF.set rfl ⟨_,_,hw.setSt _⟩
  clear hw hS hV eS
  walk_nrm
  u_op zab hF
  u_c stepG_region_end zab hF
  u_c stepG_ret' zab hF
  u_leave1 H.f_uAdd zab hF
  u_op zab hF
  u_c stepG_region_end zab hF
  iterate 2 (u_c stepG_seq zab hF)
  u_reg zab hF
  iterate 4 (u_op zab hF)
  iterate 2 (u_skip zab hF)
  u_op zab hF
  u_c stepG_region_end zab hF
  u_cnd false zab hF
  u_c stepG_skip zab hF
  u_c stepG_seq zab hF
  u_reg zab hF
  iterate 4 (u_op zab hF)
  u_c stepG_region_end zab hF
  u_c stepG_seq zab hF
  u_reg zab hF
  iterate 4 (u_op zab hF)
  u_c stepG_region_end zab hF
  iterate 2 (u_c stepG_seq zab hF)
  u_reg zab hF
  iterate 10 (u_op zab hF)
  u_c stepG_region_end zab hF
  u_cnd false zab hF
  u_c stepG_skip zab hF
  iterate 2 (u_c stepG_seq zab hF)
  u_reg zab hF
  iterate 2 (u_op zab hF)
  u_c stepG_region_end zab hF
  u_cnd false zab hF
  u_c stepG_skip zab hF
  iterate 2 (u_c stepG_seq zab hF)
  u_reg zab hF
  iterate 3 (u_op zab hF)
  iterate 2 (u_skip zab hF)
  iterate 2 (u_op zab hF)
  iterate 4 (u_skip zab hF)
  u_op zab hF
  u_c stepG_region_end zab hF
  u_cnd false zab hF
  u_c stepG_skip zab hF
  iterate 2 (u_c stepG_seq zab hF)
  u_reg zab hF
  iterate 3 (u_op zab hF)
  iterate 2 (u_skip zab hF)
  u_op zab hF
  u_c stepG_region_end zab hF
  u_cnd true zab hF
  u_c stepG_ret' zab hF
  refine Goes.stop (fun w₄ h₁=>?_)
  replace hF:=zab hF h₁
  clear h₁
  refine⟨rfl,_,stepG_unwind_entry (v:=.tuple #[]) (evs:=#[mk .enable]) rfl H.f_enable (x_enable_n L) (x_enable_b L) (x_enable_x L) (x_enable_f L) (by simp[Extern.Race.none_]) (by simp[mk]) (by simp[mk]),2,?_⟩
  u_leave0 H.f_add zab hF
  exact Goes.stop fun _ h=>⟨rfl,zab hF h⟩
end
section
variable(P:Program)(ty:TypeId)(Wg ch:Nat)
def GoX(Stop:Goroutine->Wq)(g:Goroutine)(w:World):Prop:=∃ m,GoL P (zal ty Wg ch) Stop m g w
variable(Nx Anch:Goroutine->Wq)
def zuA(g:Goroutine)(w:World):Prop:=g.status=.running/\∃ g',stepG P true g w=.go g' w #[mk (.acquire (stA Wg))]/\∃ m,GoL P (fun _=>True) Nx m g' w
def QKe(g:Goroutine)(w:World):Prop:=g.status=.running/\∃ g',stepG P true g w=.go g' w #[mk .enable]/\GoX P ty Wg ch (zuA P Wg Nx) g' w
def QW4(g:Goroutine)(w:World):Prop:=g.status=.running/\(WgAt ty Wg w 0 0->∃ g',stepG P true g w=.go g' w #[rd (stA Wg)]/\GoX P ty Wg ch (QKe P ty Wg ch Nx) g' w)
def QW3(g:Goroutine)(w:World):Prop:=g.status=.running/\g.offers=none /\
  ((∃ st,WgAt ty Wg w st 0)->stepG P true g w=.go { g with status:=.blocked } w #[]) /\
  (WgAt ty Wg w 0 1->∃ g',stepG P true g w=.go g' (w.setCell (smA Wg) (.int .u32 0)) (semEvents (smA Wg))/\GoX P ty Wg ch (QW4 P ty Wg ch Nx) g' (w.setCell (smA Wg) (.int .u32 0)))
def QWr(g:Goroutine)(w:World):Prop:=g.status=.running/\∃ g',stepG P true g w=.go g' w #[⟨.mark (.write (smA Wg)),false,true⟩]/\GoX P ty Wg ch (QW3 P ty Wg ch Nx) g' w
def QW2(vs:Nat)(g:Goroutine)(w:World):Prop:=g.status=.running/\∀ v:Nat,v<2147483648->WgAt ty Wg w (v * KK) 0 ->
  (v=vs->∃ g',stepG P true g w=.go g' (w.setCell (stA Wg) (.int .u64 (v * KK+1))) #[rd (stA Wg),wr (stA Wg)]/\GoX P ty Wg ch (QWr P ty Wg ch Nx) g' (w.setCell (stA Wg) (.int .u64 (v * KK+1)))) /\
  (v≠vs->∃ g',stepG P true g w=.go g' w #[rd (stA Wg)]/\GoX P ty Wg ch Anch g' w)
def QW1(g:Goroutine)(w:World):Prop:=g.status=.running/\∀ v:Nat,v<2147483648->WgAt ty Wg w (v * KK) 0->∃ g',stepG P true g w=.go g' w #[rd (stA Wg)] /\
  (v=0->GoX P ty Wg ch (QKe P ty Wg ch Nx) g' w)/\(v≠0->GoX P ty Wg ch (QW2 P ty Wg ch Nx Anch v) g' w)
def QKd(g:Goroutine)(w:World):Prop:=g.status=.running/\∃ g',stepG P true g w=.go g' w #[mk .disable]/\GoX P ty Wg ch Anch g' w
end
def zqb(L:WgLink)(Wg ch:Nat)(c:Frame)(cs:List Frame)(g:Goroutine)(w:World):Prop :=
 ∃ T:Array Value,g=G ((base L.wait).at ⟨T,[]⟩ [.code (L7 L),.inLoop (L7 L),.inBlock 0]) (c::cs)/\T.size=84/\T[0]?=some (.pointer (xA Wg))/\zal L.tWg Wg ch w
abbrev ztg(Wg:Nat):Array Value:=#[.pointer (xA Wg),undef,undef,undef,undef,undef,undef,undef,undef,undef,undef,undef,undef,undef,undef,undef,undef,undef,undef,undef,undef,undef,undef,undef,undef,undef,undef,undef,undef,undef,undef,undef,undef,undef,undef,undef,undef,undef,undef,undef,undef,undef,undef,undef,undef,undef,undef,undef,undef,undef,undef,undef,undef,undef,undef,undef,undef,undef,undef,undef,undef,undef,undef,undef,undef,undef,undef,undef,undef,undef,undef,undef,undef,undef,undef,undef,undef,undef,undef,undef,undef,undef,undef,undef]
section
variable{L:WgLink}{Wg ch:Nat}{b₀:Frame}{a₀:Act}{ops₀:Array Oper}{i₀:Nat}{rest₀:List Nat}{k₀:List Item}{cs:List Frame}
theorem znG{P:Program}(H:WgLib P L)(g:Goroutine)(w:World)(h:zqb L Wg ch (b₀.at a₀ (.inRegion ops₀ (i₀::rest₀)::k₀)) cs g w) :
  GoX P L.tWg Wg ch (QW1 P L.tWg Wg ch (fun g _=>g=G (b₀.at (a₀.put ((ops₀[i₀]?).bind (·.dst)) (.tuple #[])) (.inRegion ops₀ rest₀::k₀)) cs) (zqb L Wg ch (b₀.at a₀ (.inRegion ops₀ (i₀::rest₀)::k₀)) cs)) g w:=by
 lib_facts
 obtain⟨T,rfl,h1,t0,hF⟩:=h
 obtain⟨v0,v1,v2,v3,v4,v5,v6,v7,v8,v9,v10,v11,v12,v13,v14,v15,v16,v17,v18,v19,v20,v21,v22,v23,v24,v25,v26,v27,v28,v29,v30,v31,v32,v33,v34,v35,v36,v37,v38,v39,v40,v41,v42,v43,v44,v45,v46,v47,v48,v49,v50,v51,v52,v53,v54,v55,v56,v57,v58,v59,v60,v61,v62,v63,v64,v65,v66,v67,v68,v69,v70,v71,v72,v73,v74,v75,v76,v77,v78,v79,v80,v81,v82,v83,rfl⟩:=array84 T h1
 simp only[List.getElem?_toArray,List.getElem?_cons_zero,Option.some.injEq] at t0
 subst t0
 refine⟨30,?_⟩
 simp only[L7,body_wait,waitFn,Option.getD_some]
 u_c stepG_block zab hF
 u_c stepG_seq zab hF
 u_reg zab hF
 iterate 3 (u_op zab hF)
 u_call H.f_uLoad (nm_uLoad L) uLoadFn zab hF
 u_c stepG_seq zab hF
 u_reg zab hF
 u_op zab hF
 u_c stepG_region_end zab hF
 u_c stepG_seq zab hF
 u_reg zab hF
 iterate 3 (u_op zab hF)
 refine Goes.stop (fun w₁ h₁=>?_)
 replace hF:=zab hF h₁
 clear h₁
 refine⟨rfl,fun v hv hw=>?_⟩
 rcases Nat.eq_zero_or_pos v with rfl|h2
 ·replace hw:WgAt L.tWg Wg w₁ 0 0:=by simpa using hw
  refine⟨_,stepG_load_atomic (v:=0) rfl rfl (by k_ne) rfl H.f_loadU64 (x_loadU64_n L) (x_loadU64_b L) (x_loadU64_x L) .u64 (x_loadU64_f L) rfl hw.cellSt,fun _=>⟨50,?_⟩,fun h=>absurd rfl h⟩
  clear hw
  walk_nrm
  u_op zab hF
  u_c stepG_region_end zab hF
  u_c stepG_ret' zab hF
  u_leave1 H.f_uLoad zab hF
  u_op zab hF
  u_c stepG_region_end zab hF
  u_c stepG_seq zab hF
  u_reg zab hF
  iterate 4 (u_op zab hF)
  u_c stepG_region_end zab hF
  u_c stepG_seq zab hF
  u_reg zab hF
  iterate 4 (u_op zab hF)
  u_c stepG_region_end zab hF
  iterate 2 (u_c stepG_seq zab hF)
  u_reg zab hF
  iterate 2 (u_op zab hF)
  u_c stepG_region_end zab hF
  u_cond true zab hF
  u_c stepG_seq zab hF
  u_cond true zab hF
  u_c stepG_seq zab hF
  u_reg zab hF
  refine Goes.stop (fun w₅ h₁=>?_)
  replace hF:=zab hF h₁
  clear h₁
  refine⟨rfl,_,stepG_mark0 .enable qm rfl rfl (by k_ne) rfl H.f_enable (x_enable_n L) (x_enable_b L) (x_enable_x L) (x_enable_f L),12,?_⟩
  walk_nrm
  u_c stepG_region_end zab hF
  u_reg zab hF
  u_op zab hF
  u_conv H.underlying_tWgP H.room_tWg (WgLive.cell0 hF.1).choose_spec zab hF
  refine Goes.stop (fun w₆ h₁=>?_)
  replace hF:=zab hF h₁
  clear h₁
  refine⟨rfl,_,stepG_markAt .acquire qm rfl rfl (by k_ne) rfl H.f_acquire (x_acquire_n L) (x_acquire_b L) (x_acquire_x L) (x_acquire_f L) (by simp[Act.eval,stA]),20,?_⟩
  replace hF:(fun _:World=>True) w₆:=trivial
  walk_nrm
  u_c stepG_region_end zab hF
  iterate 2 (u_c stepG_seq zab hF)
  u_reg zab hF
  iterate 8 (u_op zab hF)
  iterate 2 (u_skip zab hF)
  u_op zab hF
  u_c stepG_region_end zab hF
  u_cond false zab hF
  u_c stepG_skip zab hF
  u_c stepG_ret' zab hF
  u_leave0 H.f_wait zab hF
  exact Goes.stop fun _ _=>rfl
 ·obtain⟨S,hS⟩:∃ S:Int,(v:Int) * KK=S:=⟨_,rfl⟩
  have a1:S / 4294967296=(v:Int):=by rw[<- hS];simp only[KK];omega
  have b1:bits .and .u64 S 2147483648=0:=by rw[<- hS];have:=st_flag v 0 qg qg;simpa [KK] using this
  have b2:bits .and .u64 S 2147483647=0:=by rw[<- hS];have:=st_waiters v 0 qg qg;simpa [KK] using this
  have c1:IntKind.i32.wrap (v:Int)=(v:Int):=by rw[IntKind.wrap_i32];omega
  have w1:IntKind.u64.wrap (S+1)=S+1:=by rw[IntKind.wrap_u64,<- hS];simp only[KK];omega
  have q3:decide ((v:Int)<0)=false:=decide_eq_false qg
  have q4:decide (0<(v:Int))=true:=decide_eq_true qg
  have q5:((v:Int) == 0)=false:=qn
  have q6:decide ((v:Int)=0)=false:=decide_eq_false qg
  rw[hS] at hw
  refine⟨_,stepG_load_atomic (v:=S) rfl rfl (by k_ne) rfl H.f_loadU64 (x_loadU64_n L) (x_loadU64_b L) (x_loadU64_x L) .u64 (x_loadU64_f L) rfl hw.cellSt,fun h0=>absurd h0 qg,fun _=>⟨60,?_⟩⟩
  clear hw
  walk_nrm
  u_op zab hF
  u_c stepG_region_end zab hF
  u_c stepG_ret' zab hF
  u_leave1 H.f_uLoad zab hF
  u_op zab hF
  u_c stepG_region_end zab hF
  u_c stepG_seq zab hF
  u_reg zab hF
  iterate 4 (u_op zab hF)
  u_c stepG_region_end zab hF
  u_c stepG_seq zab hF
  u_reg zab hF
  iterate 4 (u_op zab hF)
  u_c stepG_region_end zab hF
  iterate 2 (u_c stepG_seq zab hF)
  u_reg zab hF
  iterate 2 (u_op zab hF)
  u_c stepG_region_end zab hF
  u_cnd false zab hF
  u_c stepG_skip zab hF
  u_c stepG_seq zab hF
  u_reg zab hF
  iterate 6 (u_op zab hF)
  u_call H.f_uCas (nm_uCas L) uCasFn zab hF
  u_c stepG_seq zab hF
  u_reg zab hF
  u_op zab hF
  u_c stepG_region_end zab hF
  u_c stepG_seq zab hF
  u_reg zab hF
  iterate 5 (u_op zab hF)
  refine Goes.stop (fun w₂ h₁=>?_)
  replace hF:=zab hF h₁
  clear h₁
  refine⟨rfl,fun v' hv' hw=>⟨fun e=>?_,fun e=>?_⟩⟩
  ·subst e
   rw[hS] at hw ⊢
   refine⟨_,(stepG_cas_hit (v:=S) (n:=S+1) rfl rfl (by k_ne) rfl H.f_casU64 (x_casU64_n L) (x_casU64_b L) (x_casU64_x L) .u64 (x_casU64_f L) rfl rfl rfl hw.cellSt (hw.thaw 0)).trans (by rfl),40,?_⟩
   replace hF:zal L.tWg Wg ch (w₂.setCell (stA Wg) (.int .u64 (S+1))):=hF.set rfl ⟨_,_,hw.setSt _⟩
   clear hw
   walk_nrm
   u_op zab hF
   u_c stepG_region_end zab hF
   u_c stepG_ret' zab hF
   u_leave1 H.f_uCas zab hF
   u_c stepG_region_end zab hF
   u_cond true zab hF
   iterate 2 (u_c stepG_seq zab hF)
   u_reg zab hF
   iterate 4 (u_op zab hF)
   u_c stepG_region_end zab hF
   u_cond true zab hF
   u_reg zab hF
   iterate 3 (u_op zab hF)
   u_conv H.underlying_tPU32 H.room_tU32 (WgLive.cell1 hF.1).choose_spec zab hF
   refine Goes.stop (fun w₇ h₁=>?_)
   replace hF:=zab hF h₁
   clear h₁
   refine⟨rfl,_,stepG_markAt .write qm rfl rfl (by k_ne) rfl H.f_raceWrite (x_raceWrite_n L) (x_raceWrite_b L) (x_raceWrite_x L) (x_raceWrite_f L) (ad:=(O _ 1)) (by simp[Act.eval] <;> rfl),70,?_⟩
   u_c stepG_region_end zab hF
   u_c stepG_seq zab hF
   u_reg zab hF
   u_op zab hF
   u_c stepG_region_end zab hF
   iterate 2 (u_c stepG_seq zab hF)
   u_reg zab hF
   iterate 4 (u_op zab hF)
   u_skip zab hF
   u_op zab hF
   u_c stepG_region_end zab hF
   u_cond false zab hF
   u_c stepG_skip zab hF
   u_c stepG_seq zab hF
   u_reg zab hF
   iterate 4 (u_op zab hF)
   refine Goes.stop (fun w₃ h₁=>?_)
   replace hF:=zab hF h₁
   clear h₁
   refine⟨rfl,rfl,fun ⟨st,hw⟩=>stepG_semacquire_wait rfl rfl rfl H.f_semacquire (x_semacquire_n L) (x_semacquire_b L) (x_semacquire_x L) (x_semacquire_f L) (by simp[Act.eval,smA]) hw.cellSm,fun hf=>?_⟩
   refine⟨_,(stepG_semacquire (n:=1) rfl rfl (by k_ne) rfl H.f_semacquire (x_semacquire_n L) (x_semacquire_b L) (x_semacquire_x L) (x_semacquire_f L) (by simp[Act.eval,smA]) hf.cellSm (by k_ne) (hf.thaw 1)).trans (by rfl),30,?_⟩
   replace hF:zal L.tWg Wg ch (w₃.setCell (smA Wg) (.int .u32 0)):=hF.set rfl ⟨_,_,hf.setSm 0⟩
   clear hf
   walk_nrm
   u_c stepG_region_end zab hF
   u_c stepG_seq zab hF
   u_reg zab hF
   iterate 3 (u_op zab hF)
   u_call H.f_uLoad (nm_uLoad L) uLoadFn zab hF
   u_c stepG_seq zab hF
   u_reg zab hF
   u_op zab hF
   u_c stepG_region_end zab hF
   u_c stepG_seq zab hF
   u_reg zab hF
   iterate 3 (u_op zab hF)
   refine Goes.stop (fun w₄ h₁=>?_)
   replace hF:=zab hF h₁
   clear h₁
   refine⟨rfl,fun hw=>⟨_,stepG_load_atomic (v:=0) rfl rfl (by k_ne) rfl H.f_loadU64 (x_loadU64_n L) (x_loadU64_b L) (x_loadU64_x L) .u64 (x_loadU64_f L) rfl hw.cellSt,30,?_⟩⟩
   clear hw
   walk_nrm
   u_op zab hF
   u_c stepG_region_end zab hF
   u_c stepG_ret' zab hF
   u_leave1 H.f_uLoad zab hF
   iterate 2 (u_op zab hF)
   u_c stepG_region_end zab hF
   u_c stepG_seq zab hF
   u_cond true zab hF
   u_c stepG_seq zab hF
   u_reg zab hF
   refine Goes.stop (fun w₅ h₁=>?_)
   replace hF:=zab hF h₁
   clear h₁
   refine⟨rfl,_,stepG_mark0 .enable qm rfl rfl (by k_ne) rfl H.f_enable (x_enable_n L) (x_enable_b L) (x_enable_x L) (x_enable_f L),12,?_⟩
   walk_nrm
   u_c stepG_region_end zab hF
   u_reg zab hF
   u_op zab hF
   u_conv H.underlying_tWgP H.room_tWg (WgLive.cell0 hF.1).choose_spec zab hF
   refine Goes.stop (fun w₆ h₁=>?_)
   replace hF:=zab hF h₁
   clear h₁
   refine⟨rfl,_,stepG_markAt .acquire qm rfl rfl (by k_ne) rfl H.f_acquire (x_acquire_n L) (x_acquire_b L) (x_acquire_x L) (x_acquire_f L) (by simp[Act.eval,stA]),20,?_⟩
   replace hF:(fun _:World=>True) w₆:=trivial
   walk_nrm
   u_c stepG_region_end zab hF
   iterate 2 (u_c stepG_seq zab hF)
   u_reg zab hF
   u_op zab hF
   u_c stepG_region_end zab hF
   u_cond false zab hF
   u_c stepG_skip zab hF
   u_c stepG_ret' zab hF
   u_leave0 H.f_wait zab hF
   exact Goes.stop fun _ _=>rfl
  ·refine⟨_,stepG_cas_miss (v:=(v':Int) * KK) (old:=S) (n:=S+1) rfl rfl (by k_ne) rfl H.f_casU64 (x_casU64_n L) (x_casU64_b L) (x_casU64_x L) .u64 (x_casU64_f L) rfl rfl rfl hw.cellSt (hw.thaw 0) (by rw[<- hS];simp only[KK];omega),20,?_⟩
   clear hw
   walk_nrm
   u_op zab hF
   u_c stepG_region_end zab hF
   u_c stepG_ret' zab hF
   u_leave1 H.f_uCas zab hF
   u_c stepG_region_end zab hF
   u_cond false zab hF
   u_c stepG_skip zab hF
   u_c stepG_inBlock zab hF
   u_c stepG_inLoop zab hF
   refine Goes.stop (fun w₈ h₁=>?_)
   replace hF:=zab hF h₁
   clear h₁
   exact⟨_,rfl,qm,qm,hF⟩
theorem znH{P:Program}(H:WgLib P L)(w:World)(hF:zal L.tWg Wg ch w) :
  GoL P (zal L.tWg Wg ch) (QKd P L.tWg Wg ch (zqb L Wg ch (b₀.at a₀ (.inRegion ops₀ (i₀::rest₀)::k₀)) cs)) 3
   (G ((base L.wait).at ⟨ztg Wg,[]⟩ [.code (body_wait L)]) (b₀.at a₀ (.inRegion ops₀ (i₀::rest₀)::k₀)::cs)) w:=by
 lib_facts
 simp only[ztg,body_wait,waitFn,Option.getD_some]
 u_c stepG_seq zab hF
 u_cond true zab hF
 u_reg zab hF
 refine Goes.stop (fun w₁ h₁=>?_)
 replace hF:=zab hF h₁
 clear h₁
 refine⟨rfl,_,stepG_mark0 .disable qm rfl rfl (by k_ne) rfl H.f_disable (x_disable_n L) (x_disable_b L) (x_disable_x L) (x_disable_f L),3,?_⟩
 walk_nrm
 u_c stepG_region_end zab hF
 u_c stepG_block zab hF
 u_c stepG_loop zab hF
 refine Goes.stop (fun w₂ h₁=>?_)
 replace hF:=zab hF h₁
 clear h₁
 exact⟨_,rfl,qm,qm,hF⟩
end
def zlh(B:Np)(Fp:Wq):Prop:=∀ w w₁:World,w.heap.size<=w₁.heap.size->(∀ c,B c->w₁.heap[c]?=w.heap[c]?)->w₁.tape=w.tape->w₁.os=w.os->w₁.output=w.output->Fp w->Fp w₁
section
variable{P:Program}{ty:TypeId}{Wg ch:Nat}{K S:Np}{Fp:Wq}
theorem zsH(Wg:Nat):ExE Wg true ⟨.mark (.read (smA Wg)),false,true⟩:=by
 refine⟨fun x hx=>?_,qm,qm,qm,?_⟩
 ·simp only[MemAct.ofEvent,MemAct.touch?,Option.some.injEq] at hx
  subst hx
  exact⟨⟨_,rfl,rfl⟩,qm,qm⟩
 ·simp[MemAct.ofEvent,MemAct.low,smA]
theorem zqB(Wg:Nat):ExE Wg true ⟨.mark (.write (smA Wg)),false,true⟩:=by
 refine⟨fun x hx=>?_,qm,qm,qm,?_⟩
 ·simp only[MemAct.ofEvent,MemAct.touch?,Option.some.injEq] at hx
  subst hx
  exact⟨⟨_,rfl,rfl⟩,qm,qm⟩
 ·simp[MemAct.ofEvent,MemAct.low,smA]
theorem zdO(hS:∀ w w₁,zaW (zal ty Wg ch) K S w w₁->Fp w->Fp w₁){Stop:Goroutine->Wq}{Stop':St}(hs:∀ g w,(∀ w₁,zaW (zal ty Wg ch) K S w w₁->Fp w₁/\Stop g w₁)->Stop' S g w) :
  ∀(n:Nat) {g:Goroutine} {w:World},GoL P (zal ty Wg ch) Stop n g w->Fp w->WX P ty Wg ch K Stop' S g w
 | 0,g,w,h,hf=>za5.stop fun w₁ h₁=>hs g w₁ fun w₂ h₂=>⟨hS _ _ (h₁.trans h₂) hf,h w₂ (h₁.trans h₂).live⟩
 | n+1,g,w,h,hf=>by
  rcases h with h|⟨hr,h⟩
  ·exact za5.stop fun w₁ h₁=>hs g w₁ fun w₂ h₂=>⟨hS _ _ (h₁.trans h₂) hf,h w₂ (h₁.trans h₂).live⟩
  ·refine za5.go hr fun w₁ h₁=>?_
   have:=h w₁ h₁.live
   cases hg:stepG P true g w₁ with
   | go g' w' es =>
    rw[hg,goes_go] at this
    obtain⟨⟨rfl,rfl⟩,h3⟩:=this
    exact⟨g',w',#[],S,rfl,Does.none w',zdO hS hs n h3 (hS _ _ h₁ hf)⟩
   | _=>rw[hg] at this;exact this.elim
theorem zsq{e:Event}(he:ExE Wg true e){Stop':St}(h:∀ w₁,zaW (zal ty Wg ch) K S w w₁->g.status=.running/\∃ g',stepG P true g w₁=.go g' w₁ #[e]/\WX P ty Wg ch K Stop' S g' w₁):WX P ty Wg ch K Stop' S g w:=by
 refine za5.go (h w (zaW.refl w)).1 fun w₁ h₁=>?_
 obtain⟨_,g',h2,h3⟩:=h w₁ h₁
 refine⟨g',w₁,_,S,h2,⟨Nat.le_refl _,fun _ h=>h,fun _ h=>Or.inl h,fun _ _ _=>rfl,rfl,rfl,rfl,fun x hx=>?_⟩,h3⟩
 simp only[List.mem_toArray,List.mem_cons,List.not_mem_nil,or_false] at hx
 subst hx
 exact Or.inr he
theorem zlc{Stop Stop':St}(h:WX P ty Wg ch K Stop S g w)(hb:∀ S g w,Stop S g w->WX P ty Wg ch K Stop' S g w):WX P ty Wg ch K Stop' S g w:=by
 obtain⟨r,h⟩:=h
 have:∀(r:Rk) {σ:Nat} {S:Np} {g:Goroutine} {w:World},Way P true (zal ty Wg ch) (ExE Wg true) (fun _ S g w=>Stop S g w) (fun _ _ _ _=>False) ch K r σ S g w->σ=0->za5 P true (zal ty Wg ch) (ExE Wg true) (fun _ S g w=>Stop' S g w) (fun _ _ _ _=>False) ch K σ S g w:=by
  intro r
  induction r with
  | z=>rintro _ S g w h rfl;exact hb _ _ _ (h w (zaW.refl w))
  | s f ih =>
   rintro _ S g w h rfl
   rcases h with h|⟨hr,h⟩
   ·exact hb _ _ _ (h w (zaW.refl w))
   ·refine za5.step hr fun w₁ hs=>?_
    rcases h w₁ hs with ⟨g',w',es,S',h1,h2,h3⟩|⟨g1,v,z,S',h1,h0,h2,h3⟩
    ·exact Or.inl ⟨g',w',es,S',h1,h2,ih w₁ h3 rfl⟩
    ·exact h2.elim
 exact this r h rfl
end
section
variable{P:Program}{Wg ch:Nat}[Payload]{Snd:Nat->Np->Value->Wq}{fst fin:Nat->Nat}{L:WgLink}{b₀:Frame}{a₀:Act}{ops₀:Array Oper}{i₀:Nat}{rest₀:List Nat}{k₀:List Item}{cs:List Frame}{K S:Np}{Fp:Wq}{j:Nat}{Next:Np->St}
omit [Payload] in
theorem zow(h0:zlh B Fp)(h1:¬ B Wg){v:Value}(ha:a.block=Wg)(h:Fp w):Fp (w.setCell a v) :=
 have e:=aside_setCell w a v
 h0 _ _ (Nat.le_of_eq e.size.symm) (fun c hc=>e.block c (by rw[ha];rintro rfl;exact h1 hc)) e.tape e.os e.output h
theorem znP(H:WgLib P L)(h8:zlh B Fp)(h9:¬ B Wg)(hB:∀ c,B c->K c\/S c)(he:∀ w,Fp w->zal L.tWg Wg ch w->WX P L.tWg Wg ch K (MGo P L.tWg Wg ch Snd fst fin K j Next) S (G (b₀.at (a₀.put ((ops₀[i₀]?).bind (·.dst)) (.tuple #[])) (.inRegion ops₀ rest₀::k₀)) cs) w)(w:World)(hf:Fp w)(hF:zal L.tWg Wg ch w) :
  WX P L.tWg Wg ch K (znM P L.tWg Wg ch Snd fst fin K j Next) S (G ((base L.add).at ⟨zun Wg,[]⟩ [.code (body_add L)]) (b₀.at a₀ (.inRegion ops₀ (i₀::rest₀)::k₀)::cs)) w:=by
 have hS:∀ w w₁,zaW (zal L.tWg Wg ch) K S w w₁->Fp w->Fp w₁:=fun w w₁ hs=>h8 w w₁ hs.size (fun c hc=>hs.same c (hB c hc)) hs.tape hs.os hs.out
 have en:∀(m:Nat) (g:Goroutine) (w:World),GoL P (zal L.tWg Wg ch) (zug P (zal L.tWg Wg ch) (fun g w=>g=G (b₀.at (a₀.put ((ops₀[i₀]?).bind (·.dst)) (.tuple #[])) (.inRegion ops₀ rest₀::k₀)) cs/\zal L.tWg Wg ch w)) m g w->Fp w->WX P L.tWg Wg ch K (zuk P L.tWg Wg ch Snd fst fin K j Next) S g w:=by
  intro m g w h hf
  refine zdO hS (fun g w h=>?_) m h hf
  obtain⟨hf,hr,g',h1,m,h2⟩:=h w (zaW.refl w)
  refine⟨hr,g',h1,zlc (zdO (Stop':=fun S' g w=>S'=S/\Fp w/\g=G (b₀.at (a₀.put ((ops₀[i₀]?).bind (·.dst)) (.tuple #[])) (.inRegion ops₀ rest₀::k₀)) cs/\zal L.tWg Wg ch w) hS (fun g w h=>?_) m h2 hf) ?_⟩
  ·obtain⟨x,y,z⟩:=h w (zaW.refl w)
   exact⟨rfl,x,y,z⟩
  ·rintro S' g w ⟨rfl,x,rfl,z⟩
   exact he w x z
 have h0:=zqi (Wg:=Wg) (ch:=ch) (b₀:=b₀) (a₀:=a₀) (ops₀:=ops₀) (i₀:=i₀) (rest₀:=rest₀) (k₀:=k₀) (cs:=cs) H w hF
 refine zdO hS (fun g w h=>?_) 12 h0 hf
 obtain⟨hf,hr,g',h1,m,h2⟩:=h w (zaW.refl w)
 refine⟨hr,g',h1,zdO hS (fun g w h=>?_) m h2 hf⟩
 obtain⟨hf,hr,h3⟩:=h w (zaW.refl w)
 refine⟨hr,fun v hv hw=>?_⟩
 obtain⟨g',h4,h5⟩:=h3 v hv hw
 refine⟨g',h4,?_⟩
 have hf':=zow h8 h9 (a:=stA Wg) (v:=.int .u64 ((v+1) * KK)) rfl hf
 rcases h5 with ⟨m,h5⟩|⟨m,h5⟩
 ·refine zlc (zdO (Stop':=fun S' g w=>S'=S/\∀ w₁,zaW (zal L.tWg Wg ch) K S w w₁->Fp w₁/\zuu P (zal L.tWg Wg ch) Wg (fun g w=>g=G (b₀.at (a₀.put ((ops₀[i₀]?).bind (·.dst)) (.tuple #[])) (.inRegion ops₀ rest₀::k₀)) cs/\zal L.tWg Wg ch w) g w₁) hS (fun g w h=>⟨rfl,h⟩) m h5 hf') ?_
  rintro S' g w ⟨rfl,h⟩
  refine zsq (zsH Wg) fun w₁ h₁=>?_
  obtain⟨x,hr,g',h6,m,h7⟩:=h w₁ h₁
  exact⟨hr,g',h6,en m g' w₁ h7 x⟩
 ·exact en m _ _ h5 hf'
def zsv(P:Program)(B:Np)(Fp:Wq)(g1:Goroutine):Np->St:=fun K S g w=>(∀ c,B c->K c\/S c)/\Fp w/\∃ m,GoL P (fun _=>True) (fun g _=>g=g1) m g w
def znK(L:WgLink)(Wg ch:Nat)(B:Np)(Fp:Wq)(c:Frame)(cs:List Frame):Np->St:=fun K S g w=>(∀ c,B c->K c\/S c)/\Fp w/\zqb L Wg ch c cs g w
omit [Payload] in
theorem zhG{c:Frame}:∀ K S g w,znK L Wg ch B Fp c cs K S g w->g.status=.running:=by
 rintro K S g w ⟨_,_,T,rfl,_⟩
 rfl
omit [Payload] in
theorem znI(H:WgLib P L)(h0:zlh B Fp)(h5:¬ B Wg) :
  ∀ K S g w,znK L Wg ch B Fp (b₀.at a₀ (.inRegion ops₀ (i₀::rest₀)::k₀)) cs K S g w ->
   WX P L.tWg Wg ch K (MW1 P L.tWg Wg ch (zsv P B Fp (G (b₀.at (a₀.put ((ops₀[i₀]?).bind (·.dst)) (.tuple #[])) (.inRegion ops₀ rest₀::k₀)) cs)) (znK L Wg ch B Fp (b₀.at a₀ (.inRegion ops₀ (i₀::rest₀)::k₀)) cs) K) S g w:=by
 rintro K S g w ⟨hB,hf,hA⟩
 obtain⟨m,h⟩:=znG H g w hA
 have hS:∀ w w₁,zaW (zal L.tWg Wg ch) K S w w₁->Fp w->Fp w₁:=fun w w₁ hs=>h0 w w₁ hs.size (fun c hc=>hs.same c (hB c hc)) hs.tape hs.os hs.out
 have ke:∀(g:Goroutine) (w:World),GoX P L.tWg Wg ch (QKe P L.tWg Wg ch (fun g _=>g=G (b₀.at (a₀.put ((ops₀[i₀]?).bind (·.dst)) (.tuple #[])) (.inRegion ops₀ rest₀::k₀)) cs)) g w->Fp w->WX P L.tWg Wg ch K (MKe P L.tWg Wg ch (zsv P B Fp (G (b₀.at (a₀.put ((ops₀[i₀]?).bind (·.dst)) (.tuple #[])) (.inRegion ops₀ rest₀::k₀)) cs)) K) S g w:=by
  rintro g w ⟨m,h⟩ hf
  refine zdO hS (fun g w h=>?_) m h hf
  obtain⟨hf,hr,g',h1,m,h2⟩:=h w (zaW.refl w)
  refine⟨hr,g',h1,zdO hS (fun g w h=>?_) m h2 hf⟩
  obtain⟨hf,hr,g',h1,m,h2⟩:=h w (zaW.refl w)
  exact⟨hr,g',h1,hB,hf,m,h2⟩
 refine zdO hS (fun g w h=>?_) m h hf
 obtain⟨hf,hr,h1⟩:=h w (zaW.refl w)
 refine⟨hr,fun v hv hw=>?_⟩
 obtain⟨g',h2,h3,h4⟩:=h1 v hv hw
 refine⟨g',h2,fun e=>ke g' w (h3 e) hf,fun e=>?_⟩
 obtain⟨m,h4⟩:=h4 e
 refine zdO hS (fun g w h=>?_) m h4 hf
 obtain⟨hf,hr,h1⟩:=h w (zaW.refl w)
 refine⟨hr,fun v' hv hw=>⟨fun e=>?_,fun e=>?_⟩⟩
 ·obtain⟨g',h2,m,h3⟩:=(h1 v' hv hw).1 e
  refine⟨g',h2,?_⟩
  refine zlc (zdO (Stop':=fun S' g w=>S'=S/\∀ w₁,zaW (zal L.tWg Wg ch) K S w w₁->Fp w₁/\QWr P L.tWg Wg ch (fun g _=>g=G (b₀.at (a₀.put ((ops₀[i₀]?).bind (·.dst)) (.tuple #[])) (.inRegion ops₀ rest₀::k₀)) cs) g w₁) hS (fun g w h=>⟨rfl,h⟩) m h3 (zow h0 h5 rfl hf)) ?_
  rintro S' g w ⟨rfl,h⟩
  refine zsq (zqB Wg) fun w₁ h₁=>?_
  obtain⟨hf,hr,g',h6,m,h7⟩:=h w₁ h₁
  refine⟨hr,g',h6,zdO hS (fun g w h=>?_) m h7 hf⟩
  obtain⟨hf,hr,ho,h1,h2⟩:=h w (zaW.refl w)
  refine⟨hr,ho,h1,fun hw=>?_⟩
  obtain⟨g',h3,m,h4⟩:=h2 hw
  refine⟨g',h3,zdO hS (fun g w h=>?_) m h4 (zow h0 h5 rfl hf)⟩
  obtain⟨hf,hr,h1⟩:=h w (zaW.refl w)
  refine⟨hr,fun hw=>?_⟩
  obtain⟨g',h2,h3⟩:=h1 hw
  exact⟨g',h2,ke g' w h3 hf⟩
 ·obtain⟨g',h2,m,h3⟩:=(h1 v' hv hw).2 e
  refine⟨g',h2,zdO hS (fun g w h=>?_) m h3 hf⟩
  obtain⟨hf,h⟩:=h w (zaW.refl w)
  exact⟨hB,hf,h⟩
omit [Payload] in
theorem zlb(H:WgLib P L)(h3:zlh B Fp)(hB:∀ c,B c->K c\/S c)(w:World)(hf:Fp w)(hF:zal L.tWg Wg ch w) :
  WX P L.tWg Wg ch K (MKd P L.tWg Wg ch (znK L Wg ch B Fp (b₀.at a₀ (.inRegion ops₀ (i₀::rest₀)::k₀)) cs) K) S (G ((base L.wait).at ⟨ztg Wg,[]⟩ [.code (body_wait L)]) (b₀.at a₀ (.inRegion ops₀ (i₀::rest₀)::k₀)::cs)) w:=by
 have hS:∀ w w₁,zaW (zal L.tWg Wg ch) K S w w₁->Fp w->Fp w₁:=fun w w₁ hs=>h3 w w₁ hs.size (fun c hc=>hs.same c (hB c hc)) hs.tape hs.os hs.out
 have h0:=znH (Wg:=Wg) (ch:=ch) (b₀:=b₀) (a₀:=a₀) (ops₀:=ops₀) (i₀:=i₀) (rest₀:=rest₀) (k₀:=k₀) (cs:=cs) H w hF
 refine zdO hS (fun g w h=>?_) 3 h0 hf
 obtain⟨hf,hr,g',h1,m,h2⟩:=h w (zaW.refl w)
 refine⟨hr,g',h1,zdO hS (fun g w h=>?_) m h2 hf⟩
 obtain⟨hf,h⟩:=h w (zaW.refl w)
 exact⟨hB,hf,h⟩
end
section
variable(P:Program)(ty:TypeId)(Wg ch:Nat)
def zuh(g:Goroutine)(w:World):Prop:=g.status=.running/\∃ g',stepG P false g w=.go g' w #[mk .disable]
def zui(g:Goroutine)(w:World):Prop:=g.status=.running/\∃ g',stepG P false g w=.go g' w #[mk (.releaseMerge (stA Wg))]/\∃ m,Goes P false (RLv (zal ty Wg ch)) DC0 (zuh P) m g' w
end
section
variable{L:WgLink}{Wg ch:Nat}{c:Frame}{cs:List Frame}
theorem zod{P:Program}(H:WgLib P L)(w:World)(hF:zal L.tWg Wg ch w) :
  Goes P false (RLv (zal L.tWg Wg ch)) DC0 (zui P L.tWg Wg ch) 23 (G ((baseD L.done).at ⟨#[.pointer (xA Wg),undef,undef,undef],[]⟩ [.code (body_done L)]) (c::cs)) w:=by
 lib_facts
 simp only[body_done,doneFn,Option.getD_some]
 u_reg zab hF
 u_op zab hF
 u_call H.f_add (nm_add L) addFn zab hF
 u_c stepG_seq zab hF
 u_cond true zab hF
 iterate 2 (u_c stepG_seq zab hF)
 u_reg zab hF
 iterate 2 (u_op zab hF)
 u_c stepG_region_end zab hF
 u_cond true zab hF
 u_reg zab hF
 u_op zab hF
 u_conv H.underlying_tWgP H.room_tWg (WgLive.cell0 hF.1).choose_spec zab hF
 refine Goes.stop (fun w₁ h₁=>?_)
 replace hF:=zab hF h₁
 clear h₁
 refine⟨rfl,_,stepG_markAt .releaseMerge qm rfl rfl (by k_ne) rfl H.f_relMerge (x_relMerge_n L) (x_relMerge_b L) (x_relMerge_x L) (x_relMerge_f L) (by simp[Act.eval,stA]),10,?_⟩
 walk_nrm
 u_c stepG_region_end zab hF
 u_c stepG_seq zab hF
 u_reg zab hF
 refine Goes.stop (fun w₂ h₁=>?_)
 replace hF:=zab hF h₁
 clear h₁
 exact⟨rfl,_,stepG_mark0 .disable qm rfl rfl (by k_ne) rfl H.f_disable (x_disable_n L) (x_disable_b L) (x_disable_x L) (x_disable_f L)⟩
end
section
variable[Payload]{P:Program}{ty:TypeId}{Wg ch:Nat}{Snd:Nat->Np->Value->Wq}{K S:Np}{C:Nat}{v:Value}
omit [Payload] in
theorem Goes.refl_step{main:Bool}{n:Nat}{g':Goroutine}{w':World}(hr:R w w)(h:Goes P main R D Stop n g w)(he:stepG P main g w=.go g' w' es):Stop g w\/(D w w' es/\∃ m,Goes P main R D Stop m g' w'):=by
 cases n with
 | zero=>exact .inl (h w hr)
 | succ n =>
  rcases h with h|⟨_,h⟩
  ·exact .inl (h w hr)
  ·have:=h w hr
   rw[he,goes_go] at this
   exact .inr ⟨this.1,n,this.2⟩
theorem zoX:∀(n:Nat) {g:Goroutine} {w:World},Goes P false (RLv (zal ty Wg ch)) DC0 (zuh P) n g w->∀ m,Goes P false (RW ty Wg C 0 0 (1 - 1)) (DWs Wg NoL NoL C 0 1) (AtR0 P ty Wg C 0 0 1 v) m g w->False:=by
 have stop:∀ {g:Goroutine} {w:World},zuh P g w->∀ m,Goes P false (RW ty Wg C 0 0 (1 - 1)) (DWs Wg NoL NoL C 0 1) (AtR0 P ty Wg C 0 0 1 v) m g w->False:=by
  rintro g w ⟨_,g',he⟩ m h
  rcases Goes.refl_step ⟨fun _ _ _ _=>rfl,fun h=>h,fun h=>h,rfl⟩ h he with ⟨_,_,g2,h2,_⟩|⟨⟨_,h2⟩,_⟩
  ·rw[he] at h2
   simp[mk] at h2
  ·exact(h2 (mk .disable) qm).2.1 rfl
 intro n
 induction n with
 | zero=>intro g w h;exact stop (h w fun x=>x)
 | succ n ih =>
  rintro g w (h|⟨_,h⟩) m h'
  ·exact stop (h w fun x=>x) m h'
  ·have:=h w fun x=>x
   cases hg:stepG P false g w with
   | go g' w' es =>
    rw[hg,goes_go] at this
    obtain⟨⟨rfl,rfl⟩,h3⟩:=this
    rcases Goes.refl_step ⟨fun _ _ _ _=>rfl,fun h=>h,fun h=>h,rfl⟩ h' hg with ⟨_,_,g2,h2,_⟩|⟨_,m,h2⟩
    ·rw[hg] at h2
     simp at h2
    ·exact ih h3 m h2
   | _=>rw[hg] at this;exact this.elim
theorem zkK(hC:K C\/S C) :∀(n:Nat) {g:Goroutine} {w:World},Goes P false (RLv (zal ty Wg ch)) DC0 (zui P ty Wg ch) n g w->zal ty Wg ch w->∀ m,Goes P false (RW ty Wg C 0 0 (1 - 1)) (DWs Wg NoL NoL C 0 1) (AtR0 P ty Wg C 0 0 1 v) m g w ->
  za5 P false (zal ty Wg ch) (ExE Wg false) (zmg P ty Wg K σ) Snd ch K σ S g w:=by
 have trans:∀ a b c,RW ty Wg C 0 0 (1 - 1) a b->RW ty Wg C 0 0 (1 - 1) b c->RW ty Wg C 0 0 (1 - 1) a c:=fun a b c h h'=>⟨fun x y z u=>(h'.low x y z u).trans (h.low x y z u),fun x=>h'.live (h.live x),fun x=>h'.pay (h.pay x),h'.cell.trans h.cell⟩
 have stop:∀ {g:Goroutine} {w:World},zui P ty Wg ch g w->∀ m,Goes P false (RW ty Wg C 0 0 (1 - 1)) (DWs Wg NoL NoL C 0 1) (AtR0 P ty Wg C 0 0 1 v) m g w->zmg P ty Wg K σ σ S g w:=by
  rintro g w ⟨_,g',he,n,h1⟩ m h
  rcases Goes.refl_step ⟨fun _ _ _ _=>rfl,fun h=>h,fun h=>h,rfl⟩ h he with h2|⟨_,m,h2⟩
  ·exact⟨rfl,C,v,hC,h2⟩
  ·exact(zoX n h1 m h2).elim
 intro n
 induction n with
 | zero=>intro g w h hl m h';exact za5.stop fun w₁ h₁=>stop (h w₁ h₁.live) m (h'.rely trans (zdH hC h₁ hl))
 | succ n ih =>
  rintro g w (h|⟨hr,h⟩) hl m h'
  ·exact za5.stop fun w₁ h₁=>stop (h w₁ h₁.live) m (h'.rely trans (zdH hC h₁ hl))
  ·refine za5.go hr fun w₁ h₁=>?_
   have:=h w₁ h₁.live
   have h'':=h'.rely trans (zdH hC h₁ hl)
   cases hg:stepG P false g w₁ with
   | go g' w' es =>
    rw[hg,goes_go] at this
    obtain⟨⟨rfl,rfl⟩,h3⟩:=this
    rcases Goes.refl_step ⟨fun _ _ _ _=>rfl,fun h=>h,fun h=>h,rfl⟩ h'' hg with ⟨_,_,g2,h2,_⟩|⟨_,m,h2⟩
    ·rw[hg] at h2
     simp at h2
    ·exact⟨g',w',#[],S,rfl,Does.none w',ih h3 (h₁.live hl) m h2⟩
   | _=>rw[hg] at this;exact this.elim
theorem zqy{L:WgLink}(H:WgLib P L)(hC:K C\/S C){c:Frame}{cs:List Frame}{qt:Nat}(h0:c.mode=.returning)(hT:QuitsD P qt 0 (G c cs))(w:World)(hF:zal L.tWg Wg ch w)(hv:Has C 0 v w) :
  za5 P false (zal L.tWg Wg ch) (ExE Wg false) (zmg P L.tWg Wg K σ) Snd ch K σ S (G ((baseD L.done).at ⟨#[.pointer (xA Wg),undef,undef,undef],[]⟩ [.code (body_done L)]) (c::cs)) w :=
 zkK hC 23 (zod H w hF) hF 23 (doneN H (Own:=NoL) (Rd:=NoL) h0 hT w ⟨hF.1,hv⟩)
