/- Of the proof: Qw, Q9 -/
import Derived.Test.YtfbbcooklhmeaaaGreatLBb
import Derived.Test.YtfbbcooklhmeaaaGreatLBg
set_option maxHeartbeats 4000000
namespace Go.Proofs.YtfbbcooklhmeaaaGreat
variable {wd:Int} {l0:List (Nat × Obj)} {Kc Sh:Nat->Prop} {ga:Option Addr} {Out:Value->World->(Nat->Prop)->Prop} {Fin:World->Value->World->(Nat->Prop)->Prop}
section
open Go Go.Conc Go.ConcN Go.RowKit Go.Conc.Lib Go.ConcR.Gen Go.ConcN.Gen
open Go.ConcR (KK wgBlock WgAt stA smA rd wr mk Payload Aside2 DC0)
section
variable {Goal:Machine->Trace->Prop} {Shun:Nat->Prop} {c:Frame} {cs:List Frame}
set_option maxRecDepth 100000 in
theorem zmR (hG:∀ n m t m' t',runNT Tryz.prog n m t=(.next m',t')->Goal m' t'->Goal m t) {n cap:Nat} {w:World} 
  (hl0:∀ p ∈ l0,Kc p.1) (hp0:Hp l0 w) (hKc:∀ c,Kc c->c < w.heap.size/\¬ Shun c)
  (hrows:∀ (c0:Frame) (cs0:List Frame) (w0:World),Hp l0 w0->(∀ e,Kc e->e < w0.heap.size/\¬ Shun e)->w.heap.size<=w0.heap.size->(∀ (v:Value) (u:World) (Sh:Nat->Prop),zb2 (fun e=>e < w0.heap.size/\¬ Shun e) w0 u->Fin w0 v u Sh->zar Tryz.prog Goal Sh (fun _=>False) (G (c0.finish v) cs0) u) ->
   zar Tryz.prog Goal Shun (fun _=>False) (G (Frame.enter Tryz.prog 52 #[.agg #[.int .i64 wd,.slice ga n cap],.func (.func 53) #[] #[]] .normal) (c0 :: cs0)) w0)
  (hFin:∀ w0 v u u2 Sh,Fin w0 v u Sh->w.heap.size<=w0.heap.size->(∀ e,e < u.heap.size->u2.heap[e]?=u.heap[e]?)->u.heap.size<=u2.heap.size->Out v u2 Sh)
  (hfin:∀ (v:Value) (u:World) (Sh:Nat->Prop),zb2 (fun e=>e < w.heap.size/\¬ Shun e) w u->Out v u Sh->zar Tryz.prog Goal Sh (fun _=>False) (G (c.finish v) cs) u) :
  zar Tryz.prog Goal Shun (fun _=>False) (G (Frame.enter Tryz.prog 32 #[.agg #[.int .i64 wd,.slice ga n cap]] .normal) (c :: cs)) w:=by
 have hLa:∀ (w:World) (o:Obj),(fun _:World=>True) w->(fun _:World=>True) (w.alloc o):=fun _ _ h=>h
 refine zar.way hG (ch:=0) (K:=Kc) (S:=fun _=>False) (l:=l0) (lx:=[]) hp0 (fun p h=>.inl (hl0 p h)) (fun _ h=>by cases h) (fun _ h=>by cases h) (fun _ h=>h.elim) (fun c hc=>⟨(hKc c (hc.elim id fun x=>x.elim)).1,(hKc c (hc.elim id fun x=>x.elim)).2,fun h=>h⟩) ?_
 rw [enter_at _ Tryz.func32 rfl]
 walk_nrmf Tryz.f32
 refine zag.sq ?_
 refine zag.rg ?_
 simp only [List.size_toArray,List.length_cons,List.length_nil,Nat.reduceAdd,Nat.zero_add,List.range,List.range.loop]
 refine zag.new hLa rfl rfl (by decide) (V:=fun c=>.pointer (some ⟨c,0,none⟩)) (obj:=.cells #[.int .i64 wd,.slice ga n cap] 28) (fun w hp=>by go_simp) (fun _ w hp e he=>by simp [go_sem] at he) fun bp hK_bp hS_bp=>?_
 walk_nrm
 refine zag.val rfl rfl (by decide) (v:=.slice none 0 0) (fun w hp=>by go_simp) (fun _ w hp e he=>by simp [go_sem] at he) ?_
 walk_nrm
 refine zag.re ?_
 refine zag.sq ?_
 refine zag.rg ?_
 simp only [List.size_toArray,List.length_cons,List.length_nil,Nat.reduceAdd,Nat.zero_add,List.range,List.range.loop]
 refine zag.val rfl rfl (by decide) (v:=.agg #[.int .i64 wd,.slice ga n cap]) (fun w hp=>?_) (fun hl w hp e he=>?_) ?_
 ·have c0:=hp.cell mcs 0 rfl
  have c1:=hp.cell mcs 1 rfl
  go_simp
 ·have c0:=hp.cell mcs 0 rfl
  have c1:=hp.cell mcs 1 rfl
  simp [go_sem, *] at he
  rcases he with rfl | rfl
  all_goals exact zat hl mcs _
 walk_nrm
 refine zag.enter rfl rfl (by decide) (fun w=>run_call_body rfl Tryz.func52 rfl rfl) (fun w=>events_call_body rfl Tryz.func52 rfl rfl _) ?_
 walk_nrm
 refine zag.stop fun hl1 w1 hp1 _ hlt1=>?_
 intro hsz1 hnew1 hx1 hKS1 _ hkept1 ht1 ho1 hu1
 refine hrows _ _ w1 (fun p h=>hp1 p (mcm h)) (fun e he=>⟨(hKS1 e (.inl he)).1,(hKS1 e (.inl he)).2.1⟩) hsz1 fun v u Sh hk hF=>?_
 simp only [Frame.finish_at]
 walk_nrm
 refine zar.way hG (ch:=0) (K:=fun _=>False) (S:=fun _=>False) (l:=[]) (lx:=[]) (fun _ h=>by cases h) (fun _ h=>by cases h) (fun _ h=>by cases h) (fun _ h=>by cases h) (fun _ h=>h.elim) (fun c hc=>(hc.elim id id).elim) ?_
 refine zag.val rfl rfl (by decide) (v:=v) (fun w hp=>by go_simp) (fun _ w hp e he=>by simp [go_sem] at he) ?_
 walk_nrm
 refine zag.re ?_
 refine zag.ctl rfl (fun _=>stepG_ret') ?_
 refine zag.ctl (g':=G (c.finish v) cs) rfl (fun w=>by rw [stepG_leave rfl rfl Tryz.func32 (results_tmp Tryz.results32 _ _ w) (events_results_tmp Tryz.results32 _ _)]; rfl) ?_
 refine zag.stop fun hl3 w3 hp3 _ hlt3=>?_
 intro hsz3 hnew3 hx3 hKS3 _ hkept3 ht3 ho3 hu3
 obtain ⟨a1,a2,a3,a4,a5⟩:=hk
 refine hfin v w3 Sh ⟨fun e he=>?_,ht3.trans (a2.trans ht1),ho3.trans (a3.trans ho1),hu3.trans (a4.trans hu1),by omega⟩ (hFin w1 v u w3 Sh hF hsz1 (fun e he=>hkept3 e he fun h=>h) hsz3)
 rw [hkept3 e (by have:=he.1; omega) (fun h=>h),a1 e ⟨by have:=he.1; omega,he.2⟩]
 exact hkept1 e he.1 (fun h=>h)
end
noncomputable abbrev zeG:Array Oper:=match Tryz.f16.body with | some (.seq _ (.seq _ (.seq (.region _ o _) _)))=>o | _=>#[]
theorem zc5:(Tryz.prog.info? 32).map (·.size)=some 4:=by kernel_rfl
section
variable {Goal:Machine->Trace->Prop} {c:Frame} {cs:List Frame}
set_option maxRecDepth 100000 in
theorem scD (hG:∀ n m t m' t',runNT Tryz.prog n m t=(.next m',t')->Goal m' t'->Goal m t) {n M bs bc bl bf:Nat} {u:World} (hs:u.heap[bs]?=some (.cells #[.int .i64 0,.slice none 0 0,.slice none 0 0,.slice none 0 0] 32)) (hsn:¬ Sh bs)
  (hfin:∀ u2:World,zb2 (fun e=>e < u.heap.size/\e ≠ bs) u u2->zar Tryz.prog Goal Sh (fun _=>False) (G (c.finish (.tuple #[.agg #[.int .i64 wd,.slice (some ⟨bc,0,none⟩) n n,.slice (some ⟨bl,0,none⟩) M M,.slice (some ⟨bf,0,none⟩) M M],.bool true])) cs) u2) (y0 y1 y3 y4 y5 y6 y7 y8 y10 y12 y14:Value) :
  zar Tryz.prog Goal Sh (fun _=>False) (G ((base 16).at ⟨#[y0,y1,.pointer (some ⟨bs,0,none⟩),y3,y4,y5,y6,y7,y8,.agg #[.int .i64 wd,.slice (some ⟨bc,0,none⟩) n n],y10,.slice (some ⟨bl,0,none⟩) M M,y12,.slice (some ⟨bf,0,none⟩) M M,y14],[]⟩ [.inRegion zeG [6,7,8],.code .ret]) (c :: cs)) u:=by
 have hlt:=(gei hs).1
 refine zar.way hG (ch:=0) (K:=fun _=>False) (S:=fun e=>e=bs) (l:=[(bs,.cells #[.int .i64 0,.slice none 0 0,.slice none 0 0,.slice none 0 0] 32)]) (lx:=[]) (fun p h=>by simp at h; subst h; exact hs) (fun p h=>by simp at h; subst h; exact .inr rfl) (fun _ h=>by cases h) (fun _ h=>by cases h) (fun _ h=>h.elim) (fun e he=>by rcases he with he | rfl; exact he.elim; exact ⟨hlt,hsn,fun h=>h⟩) ?_
 simp only [zeG,Tryz.f16]
 refine zag.val rfl rfl (by decide) (v:=.agg #[.int .i64 wd,.slice (some ⟨bc,0,none⟩) n n,.slice (some ⟨bl,0,none⟩) M M,.slice (some ⟨bf,0,none⟩) M M]) (fun w hp=>by go_simp) (fun _ w hp e he=>by simp [go_sem] at he) ?_
 walk_nrm
 refine zag.put (l':=[(bs,.cells #[.int .i64 wd,.slice (some ⟨bc,0,none⟩) n n,.slice (some ⟨bl,0,none⟩) M M,.slice (some ⟨bf,0,none⟩) M M] 32)]) (c:=bs) (obj:=.cells #[.int .i64 wd,.slice (some ⟨bc,0,none⟩) n n,.slice (some ⟨bl,0,none⟩) M M,.slice (some ⟨bf,0,none⟩) M M] 32) rfl rfl (by decide) rfl (fun _ _ _ h=>h) (fun w hp=>⟨_,zei (ty:=32) (cells:=#[.int .i64 wd,.slice (some ⟨bc,0,none⟩) n n,.slice (some ⟨bl,0,none⟩) M M,.slice (some ⟨bf,0,none⟩) M M]) rfl rfl rfl (hp.at mcs) zc5 rfl (by simp [Value.oneCell']),(zas (hp.at mcs)).1,(zas (hp.at mcs)).2⟩) (fun _ w hp e he=>?_) (fun p hp=>?_) ?_
 ·obtain ⟨q,rfl⟩:=zgl (ty:=32) (cells:=#[.int .i64 wd,.slice (some ⟨bc,0,none⟩) n n,.slice (some ⟨bl,0,none⟩) M M,.slice (some ⟨bf,0,none⟩) M M]) rfl rfl rfl (hp.at mcs) zc5 rfl (by simp [Value.oneCell']) e he
  exact Or.inl ⟨_,_,rfl,Or.inl rfl⟩
 ·rcases List.mem_cons.1 hp with rfl | hp
  ·exact .inl rfl
  ·cases hp
 walk_nrm
 refine zag.val rfl rfl (by decide) (v:=.bool true) (fun w hp=>by go_simp) (fun _ w hp e he=>by simp [go_sem] at he) ?_
 walk_nrm
 refine zag.re ?_
 refine zag.ctl rfl (fun _=>stepG_ret') ?_
 refine zag.leave (v:=.tuple #[.agg #[.int .i64 wd,.slice (some ⟨bc,0,none⟩) n n,.slice (some ⟨bl,0,none⟩) M M,.slice (some ⟨bf,0,none⟩) M M],.bool true]) rfl rfl Tryz.func16 (fun w hp=>?_) (fun hl w hp e he=>?_) ?_
 ·have c0:=hp.cell mcs 0 rfl
  have c1:=hp.cell mcs 1 rfl
  have c2:=hp.cell mcs 2 rfl
  have c3:=hp.cell mcs 3 rfl
  simp [results,Tryz.results16,go_sem,c0,c1,c2,c3]
 ·have c0:=hp.cell mcs 0 rfl
  have c1:=hp.cell mcs 1 rfl
  have c2:=hp.cell mcs 2 rfl
  have c3:=hp.cell mcs 3 rfl
  simp [results,Tryz.results16,go_sem,c0,c1,c2,c3] at he
  rcases he with rfl | rfl | rfl | rfl
  all_goals exact zat hl mcs _
 refine zag.stop fun hl3 w3 hp3 _ hlt3=>?_
 intro hsz3 hnew3 hx3 hKS3 _ hkept3 ht3 ho3 hu3
 exact hfin w3 ⟨fun e he=>hkept3 e he.1 he.2,ht3,ho3,hu3,hsz3⟩
end
end
end Go.Proofs.YtfbbcooklhmeaaaGreat
