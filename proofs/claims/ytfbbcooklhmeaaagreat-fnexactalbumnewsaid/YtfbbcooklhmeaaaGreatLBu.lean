/- Of the proof: Qk -/
import Derived.Test.YtfbbcooklhmeaaaGreatLBt
set_option maxHeartbeats 4000000
set_option linter.unusedVariables false
namespace Go.Proofs.YtfbbcooklhmeaaaGreat
variable {X:FuncId->Prop} {l0:List (Nat × Obj)} {Kc Shun:Nat->Prop} {ga:Option Addr}
section
open Go Go.Conc Go.ConcN Go.RowKit Go.Conc.Lib Go.ConcR.Gen Go.ConcN.Gen
open Go.ConcR (KK wgBlock WgAt stA smA rd wr mk Payload Aside2 DC0)
section
variable {Goal:Machine->Trace->Prop} {c:Frame} {cs:List Frame}
set_option maxRecDepth 100000 in
theorem zlc {L:Program} [T:zaB L Tryz.prog] [zaB L L] (W:Whole L) (B:Bodies L Tryz.prog X) (hX:∀ f,X f->∃ t,((L.funcs[f]?).bind (·.body)).getD (.refuse "unsupported: a function without a Go body is entered")=.refuse t)
  (hf3:L.funcs[30]?=some Tryz.f30) (hx3:¬ X 30)
  (hG:∀ n m t m' t',runNT Tryz.prog n m t=(.next m',t')->Goal m' t'->Goal m t) {wd:Int} {n cap:Nat} (hl0:∀ p ∈ l0,Kc p.1) {w:World} (hp0:Hp l0 w) (hK0:∀ e,Kc e->e < w.heap.size/\¬ Shun e)
  (hcl:∀ w,Hp l0 w->Closed Kc w) (hga:zao (zdw Kc) (.slice ga n cap) (.slice ga n cap)) (hok:∀ w,Hp l0 w->∀ τ d,Calls L 30 #[.agg #[.int .i64 wd,.slice ga n cap]] (w.frz.tp τ d) fun e _=>e=.returned (.bool false))
  (hfin:∀ u:World,zb2 (fun e=>e < w.heap.size/\¬ Shun e) w u->zar Tryz.prog Goal Shun (fun _=>False) (G (c.finish (.tuple #[.agg #[.int .i64 0,.slice none 0 0,.slice none 0 0,.slice none 0 0],.bool false])) cs) u) :
  zar Tryz.prog Goal Shun (fun _=>False) (G (Frame.enter Tryz.prog 16 #[.agg #[.int .i64 wd,.slice ga n cap]] .normal) (c :: cs)) w:=by
 have hLa:∀ (w:World) (o:Obj),(fun _:World=>True) w->(fun _:World=>True) (w.alloc o):=fun _ _ h=>h
 refine zar.way hG (ch:=0) (K:=Kc) (S:=fun _=>False) (l:=l0) (lx:=[]) hp0 (fun p h=>.inl (hl0 p h)) (fun _ h=>by cases h) (fun _ h=>by cases h) (fun _ h=>h.elim) (fun c hc=>⟨(hK0 c (hc.elim id fun x=>x.elim)).1,(hK0 c (hc.elim id fun x=>x.elim)).2,fun h=>h⟩) ?_
 rw [enter_at _ Tryz.func16 rfl]
 walk_nrmf Tryz.f16
 refine zag.sq ?_
 refine zag.rg ?_
 simp only [List.size_toArray,List.length_cons,List.length_nil,Nat.reduceAdd,Nat.zero_add,List.range,List.range.loop]
 refine zag.new hLa rfl rfl (by decide) (V:=fun c=>.pointer (some ⟨c,0,none⟩)) (obj:=.cells #[.int .i64 wd,.slice ga n cap] 28) (fun w hp=>by go_simp) (fun _ w hp e he=>by simp [go_sem] at he) fun bg hK_bg hS_bg=>?_
 walk_nrm
 refine zag.new hLa rfl rfl (by decide) (V:=fun c=>.pointer (some ⟨c,0,none⟩)) (obj:=.cells #[.int .i64 0,.slice none 0 0,.slice none 0 0,.slice none 0 0] 32) (fun w hp=>by go_simp) (fun _ w hp e he=>by simp [go_sem] at he) fun bs hK_bs hS_bs=>?_
 walk_nrm
 refine zag.val rfl rfl (by decide) (v:=.bool false) (fun w hp=>by go_simp) (fun _ w hp e he=>by simp [go_sem] at he) ?_
 walk_nrm
 refine zag.re ?_
 refine zag.sq ?_
 refine zag.sq ?_
 refine zag.rg ?_
 simp only [List.size_toArray,List.length_cons,List.length_nil,Nat.reduceAdd,Nat.zero_add,List.range,List.range.loop]
 refine ldG rfl rfl (by decide) rfl rfl (mcm mcs) ?_
 walk_nrm
 have hcl1:∀ w,Hp ((bs,.cells #[.int .i64 0,.slice none 0 0,.slice none 0 0,.slice none 0 0] 32) :: (bg,.cells #[.int .i64 wd,.slice ga n cap] 28) :: l0) w->Closed Kc w:=fun w hp=>hcl w fun p h=>hp p (mcm (mcm h))
 refine zag.enter rfl rfl (by decide) (fun w=>run_call_body rfl Tryz.func30 rfl rfl) (fun w=>events_call_body rfl Tryz.func30 rfl rfl _) ?_
 walk_nrm
 refine zag.callv (Kc:=Kc) (Lv:=fun _=>False) W B (fun _ _ _ _=>trivial) (fun _ _ _ h=>h.elim) hX hf3 rfl hx3 (by kernel_rfl) (v0:=.bool false) (fun _ _ h=>zbt h) (fun _ h=>h) hcl1 (zax _ hga) (fun w hp=>hok w fun p h=>hp p (mcm (mcm h))) fun S1=>?_
 simp only [Frame.finish_at]
 walk_nrm
 refine zag.val rfl rfl (by decide) (v:=.bool true) (fun w hp=>by go_simp) (fun _ w hp e he=>by simp [go_sem] at he) ?_
 walk_nrm
 refine zag.re ?_
 refine zag.ctl rfl (fun _=>stepG_cond (t:=true) rfl) ?_
 simp only [↓reduceIte]
 refine zag.sq ?_
 refine zag.rg ?_
 simp only [List.size_toArray,List.length_cons,List.length_nil,Nat.reduceAdd,Nat.zero_add,List.range,List.range.loop]
 refine zag.val rfl rfl (by decide) (v:=.agg #[.int .i64 0,.slice none 0 0,.slice none 0 0,.slice none 0 0]) (fun w hp=>by go_simp) (fun _ w hp e he=>by simp [go_sem] at he) ?_
 walk_nrm
 refine zag.put (l':=[(bs,.cells #[.int .i64 0,.slice none 0 0,.slice none 0 0,.slice none 0 0] 32)]) (c:=bs) (obj:=.cells #[.int .i64 0,.slice none 0 0,.slice none 0 0,.slice none 0 0] 32) rfl rfl (by decide) (.inl (.inr rfl)) (fun _ _ _ h=>h) (fun w hp=>⟨_,zei (ty:=32) (cells:=#[.int .i64 0,.slice none 0 0,.slice none 0 0,.slice none 0 0]) rfl rfl rfl (hp.at mcs) zc5 rfl (by simp [Value.oneCell']),(zas (hp.at mcs)).1,(zas (hp.at mcs)).2⟩) (fun _ w hp e he=>?_) (fun p hp=>?_) ?_
 ·obtain ⟨q,rfl⟩:=zgl (ty:=32) (cells:=#[.int .i64 0,.slice none 0 0,.slice none 0 0,.slice none 0 0]) rfl rfl rfl (hp.at mcs) zc5 rfl (by simp [Value.oneCell']) e he
  exact Or.inl ⟨_,_,rfl,Or.inl (.inl (.inr rfl))⟩
 ·rcases List.mem_cons.1 hp with rfl | hp
  ·exact .inl rfl
  ·cases hp
 walk_nrm
 refine zag.val rfl rfl (by decide) (v:=.bool false) (fun w hp=>by go_simp) (fun _ w hp e he=>by simp [go_sem] at he) ?_
 walk_nrm
 refine zag.re ?_
 refine zag.ctl rfl (fun _=>stepG_ret') ?_
 refine zag.leave (v:=.tuple #[.agg #[.int .i64 0,.slice none 0 0,.slice none 0 0,.slice none 0 0],.bool false]) rfl rfl Tryz.func16 (fun w hp=>?_) (fun hl w hp e he=>?_) ?_
 ·have c0:=hp.cell mcs 0 rfl
  have c1:=hp.cell mcs 1 rfl
  have c2:=hp.cell mcs 2 rfl
  have c3:=hp.cell mcs 3 rfl
  simp [results,Tryz.results16,go_sem,c0,c1,c2,c3]
 ·have c0:=hp.cell mcs 0 rfl
  have c1:=hp.cell mcs 1 rfl
  have c2:=hp.cell mcs 2 rfl
  have c3:=hp.cell mcs 3 rfl
  simp [results,Tryz.results16,go_sem,c0,c1,c2,c3] at he
  rcases he with rfl | rfl | rfl | rfl
  all_goals exact zat hl mcs _
 refine zag.stop fun hl3 w3 hp3 _ hlt3=>?_
 intro hsz3 hnew3 hx3 hKS3 _ hkept3 ht3 ho3 hu3
 exact hfin w3 ⟨fun e he=>hkept3 e he.1 (fun h=>h),ht3,ho3,hu3,hsz3⟩
end
end
end Go.Proofs.YtfbbcooklhmeaaaGreat
