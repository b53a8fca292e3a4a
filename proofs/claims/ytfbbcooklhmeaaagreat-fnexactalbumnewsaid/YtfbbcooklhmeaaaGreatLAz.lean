/- Of the proof: PJv -/
import Derived.Deep.RegionLaw
import Derived.Test.YtfbbcooklhmeaaaGreatLAy
set_option maxHeartbeats 800000
set_option linter.unusedVariables false
namespace Go.Proofs.YtfbbcooklhmeaaaGreat
variable {K:Act->World->Prop} {xs:List Value} {P:Program} {w:World}
namespace Sp
variable {aLt:Nat->Func->Func}
open Go.RowKit
theorem zem (wd:Int) (a:Option Addr) (cap:Nat) (cs:List (Int × Int)) (w:World) (hC:zai w a cs) (hm:cs.length<=1048576) (hlen:0 < cs.length) :
  Calls (SqG.prog aLt) 31 #[.agg #[.int .i64 wd,.slice a cs.length cap]] w fun e w'=>∃ g,e=.returned (.agg #[.int .i64 wd,.slice (some ⟨g,0,none⟩) cs.length cs.length])/\Own w' w.heap.size (.slice (some ⟨g,0,none⟩) cs.length cs.length) cs/\Below w.heap.size w w':=by
 obtain ⟨i0,hi,iz0,iz1,iz2⟩:=info_parts (zg4 (aLt:=aLt))
 go_enter SqG.func31,Tryz.ntmps31
 go_wp2_with (at_make; refine wpList_make_full _ rfl _ _ 26 rfl w.heap.size 59 i0 (.agg #[.int .i64 0,.int .i64 0]) 2 SqG.underlying26 hi iz0 iz1 .i64 .i64 _ _ cs.length rfl rfl rfl rfl ?_ ?_ ?_ ?_)
 ·rw [iz2]; omega
 ·unfold maxLen; omega
 ·simp; omega
 intro w3 hO3 hg3
 have hb3:=(Below.refl _ _).grown hg3 (Nat.le_refl _) (fun k hk=>by cases hk)
 have hz3:=hb3.size
 have hB3:Below w.heap.size w w3:=zak bel (by simp; omega) hb3
 have p0:w3.cell? ⟨w.heap.size,0,none⟩=some (.int .i64 wd):=zab hb3 (by simp [go_sem])
 have p1:w3.cell? ⟨w.heap.size,1,none⟩=some (.slice a cs.length cap):=zab hb3 (by simp [go_sem])
 have p4:w3.cell? ⟨w.heap.size + 1,0,none⟩=some (.int .i64 0):=zab hb3 (by simp [go_sem])
 have p5:w3.cell? ⟨w.heap.size + 1,1,none⟩=some (.slice none 0 0):=zab hb3 (by simp [go_sem])
 have f4:w3.frozen? ⟨w.heap.size + 1,0,none⟩=false:=zan hb3 (v:=.int .i64 0) (by simp [go_sem]) (by simp [go_sem])
 have f5:w3.frozen? ⟨w.heap.size + 1,1,none⟩=false:=zan hb3 (v:=.slice none 0 0) (by simp [go_sem]) (by simp [go_sem])
 clear hg3 hb3
 simp at hz3 hO3
 have hC3:=hC.below hB3
 rcases hC3 with h0 | ⟨b,off,rfl,hbl,hcell⟩
 ·rw [h0] at hlen; simp at hlen
 go_wp2_with (refine zl0 rfl (.tmp 8) (.tmp 10) 26 26 rfl 59 SqG.underlying26 zoR w.heap.size (w.heap.size + 1 + 1) cs.length cs.length _ ⟨b,off,none⟩ cap rfl rfl hO3 (flat cs) (zeM cs) ?_ ?_ ?_)
 ·exact zhH hcell
 ·exact zjX cs
 intro w4 hO4 hg4
 have hOw:Own w4 w.heap.size (.slice (some ⟨w.heap.size + 1 + 1,0,none⟩) cs.length cs.length) cs:=hO4
 have hB4:Below w.heap.size w w4:=hB3.grown hg4 (by omega) (fun k hk=>by simp at hk; omega)
 have hz4:=hg4.size
 have hne:∀ x,x < w.heap.size + 1 + 1->some x ≠ some (w.heap.size + 1 + 1):=by intro x hx; simp; omega
 replace f4:=(World.frozen?_of_block (a:=⟨w.heap.size + 1,0,none⟩) (hg4.block (w.heap.size + 1) (by omega) (hne _ (by omega)))).trans f4
 replace f5:=(World.frozen?_of_block (a:=⟨w.heap.size + 1,1,none⟩) (hg4.block (w.heap.size + 1) (by omega) (hne _ (by omega)))).trans f5
 replace p0:=hg4.cell p0 (hne _ (by simp; omega))
 replace p1:=hg4.cell p1 (hne _ (by simp; omega))
 replace p4:=hg4.cell p4 (hne _ (by simp))
 replace p5:=hg4.cell p5 (hne _ (by simp))
 clear hO4 hg4 hcell hne hC hO3
 go_wp2
 refine bodyPost_ret (v:=.agg #[.int .i64 wd,.slice (some ⟨w.heap.size + 1 + 1,0,none⟩) cs.length cs.length]) (by simp [results,Tryz.results31,go_sem,p4,p5]) rfl ⟨_,rfl,?_,?_⟩
 ·exact (hOw.other (by simp) _).other (by simp) _
 ·exact (hB4.setCell (by simp) _).setCell (by simp) _
end Sp
namespace Sp
variable {aLt:Nat->Func->Func}
open Go.RowKit
theorem zfJ {ops:Array Oper} {o:Oper} {a:Act} {Q:Exit->Act->World->Prop} {E:Prop}
  (hgd:o.guard=none) (s x:Operand) (t:TypeId) (ho:o.op=.call { callee:=.builtin .append,args:=#[s,x],argTypes:=#[t,t] })
  (base:Nat) (e:TypeId) (i:TypeInfo) (z:Value) (size bytes:Nat) (ht:P.underlying t=some (.slice e)) (hi:P.info? e=some i) (hz:i.zero=some z)
  (hsize:i.size=size) (hby:i.bytes=bytes) (hzs:z.cells.size=size) (hsz:0 < size)
  (v:Value) (n:Nat) (xs:List Value) (hs:a.eval s=v) (hown:w.ownsRow base e size v n xs)
  (ad:Addr) (m c:Nat) (news:List Value) (hx:a.eval x=.slice (some ad) m c) (hl:news.length=m * size) (hnews:∀ j u,news[j]?=some u->w.cell? (ad.add j)=some u) (h1:∀ u ∈ news,u.oneCell'=true)
  (h63:n + m<=maxLen) (hbytes:(n + m) * bytes<=140737488355328) (hbase:base<=w.heap.size)
  (h:∀ v' w',w'.ownsRow base e size v' (n + m) (xs ++ news)->w.grownBy w' v.ownBlock->(v'=.slice none 0 0 ↔ v=.slice none 0 0/\m=0)->K (a.put o.dst v') w') :
  if Region.wanted o (yielded ops a.tmps)=true then Oper.wp P o a w K Q else E:=by
 have hw:Region.wanted o (yielded ops a.tmps)=true:=by simp [Region.wanted,hgd]
 rw [if_pos hw]
 exact wp_append_own w s x t ho base e i z size bytes ht hi hz hsize hby hzs hsz v n xs hs hown ad m c news hx hl hnews h1 h63 hbytes hbase h
theorem zoF {B:Nat} {e:TypeId} {size:Nat} {v:Value} {n:Nat} (h:w.ownsRow B e size v n xs) (hn:0 < n):∃ g cap,v=.slice (some ⟨g,0,none⟩) n cap/\B<=g/\g < w.heap.size:=by
 rcases h.2 with ⟨_,h0⟩ | ⟨g,cap,cur,hv,hB,hg,_⟩
 ·omega
 ·exact ⟨g,cap,hv,hB,(gei hg).1⟩
theorem zk2 (w:World) (B:Nat) (e:TypeId) (size:Nat) (hB:B<=w.heap.size):(w.alloc (.cells #[] e)).ownsRow B e size (.slice (some ⟨w.heap.size,0,none⟩) 0 0) 0 []:=by
 refine ⟨by simp,Or.inr ⟨w.heap.size,0,#[],rfl,hB,heap_alloc_new w _,Nat.le_refl _,by unfold maxLen; omega,by simp,by simp⟩⟩
theorem zkP (wd:Int) (b off cap:Nat) (cs:List (Int × Int)) (w:World) (hbl:b < w.heap.size)
  (hcell:∀ i,i < cs.length->w.cell? ⟨b,off + i * 2,none⟩=some (.int .i64 (cs.getD i (0,0)).1)/\w.cell? ⟨b,off + i * 2 + 1,none⟩=some (.int .i64 (cs.getD i (0,0)).2)) (hm:cs.length<=1048576) (hp:0 < cs.length) :
  Calls (SqG.prog aLt) 27 #[.agg #[.int .i64 wd,.slice (some ⟨b,off,none⟩) cs.length cap]] w fun e w'=>∃ g cap',e=.returned (.agg #[.int .i64 wd,.slice (some ⟨g,0,none⟩) cs.length cap'])/\Own w' w.heap.size (.slice (some ⟨g,0,none⟩) cs.length cap') cs/\Below w.heap.size w w':=by
 obtain ⟨i0,hi,iz0,iz1,iz2⟩:=info_parts (zg4 (aLt:=aLt))
 go_enter SqG.func27,Tryz.ntmps27
 go_wp2_with fail
 have hE:((((w.alloc (.cells #[.int .i64 wd,.slice (some ⟨b,off,none⟩) cs.length cap] 28)).alloc (.cells #[.int .i64 0,.slice none 0 0] 28)).alloc (.cells #[] 59)).drew).ownsRow w.heap.size 59 2 (.slice (some ⟨w.heap.size + 1 + 1,0,none⟩) 0 0) 0 [] :=
  World.ownsRow.drew (by have:=zk2 ((w.alloc (.cells #[.int .i64 wd,.slice (some ⟨b,off,none⟩) cs.length cap] 28)).alloc (.cells #[.int .i64 0,.slice none 0 0] 28)) w.heap.size 59 2 (by simp; omega); simpa using this)
 have hB3:Below w.heap.size w ((((w.alloc (.cells #[.int .i64 wd,.slice (some ⟨b,off,none⟩) cs.length cap] 28)).alloc (.cells #[.int .i64 0,.slice none 0 0] 28)).alloc (.cells #[] 59)).drew):=bel
 have hSrc:∀ j u,(flat cs)[j]?=some u->((((w.alloc (.cells #[.int .i64 wd,.slice (some ⟨b,off,none⟩) cs.length cap] 28)).alloc (.cells #[.int .i64 0,.slice none 0 0] 28)).alloc (.cells #[] 59)).drew).cell? ((⟨b,off,none⟩:Addr).add j)=some u:=by
  intro j u hj
  rw [hB3.cell (by unfold Addr.add; split <;> exact hbl)]
  exact zhH hcell j u hj
 have HE:=hE
 have HSrc:=hSrc
 clear hE hSrc hcell
 go_region_law (refine zfJ rfl (.tmp 5) (.tmp 7) 26 rfl w.heap.size 59 i0 _ 2 16 SqG.underlying26 hi iz0 iz1 iz2 rfl (by decide) (.slice (some ⟨w.heap.size + 1 + 1,0,none⟩) 0 0) 0 [] rfl HE ⟨b,off,none⟩ cs.length cap (flat cs) rfl (zeM cs) HSrc (zjX cs) (by unfold maxLen; omega) (by omega) (by simp; omega) ?_; intro v' w1 hO1 hg1 hn1; simp only [Nat.zero_add,List.nil_append] at hO1; obtain ⟨g,cap',hv,hgB,hgl⟩:=zoF hO1 hp; subst hv; have q2:w1.cell? ⟨w.heap.size,0,none⟩=some (.int .i64 wd):=hg1.cell (by simp [go_sem]) (by simp [Value.ownBlock]; omega); have q0:w1.cell? ⟨w.heap.size + 1,0,none⟩=some (.int .i64 0):=hg1.cell (by simp [go_sem]) (by simp [Value.ownBlock]); have q1:w1.cell? ⟨w.heap.size + 1,1,none⟩=some (.slice none 0 0):=hg1.cell (by simp [go_sem]) (by simp [Value.ownBlock]); have f0:w1.frozen? ⟨w.heap.size + 1,0,none⟩=false:=(World.frozen?_of_block (a:=⟨w.heap.size + 1,0,none⟩) (hg1.block (w.heap.size + 1) (by simp) (by simp [Value.ownBlock]))).trans (by simp [go_sem]); have f1:w1.frozen? ⟨w.heap.size + 1,1,none⟩=false:=(World.frozen?_of_block (a:=⟨w.heap.size + 1,1,none⟩) (hg1.block (w.heap.size + 1) (by simp) (by simp [Value.ownBlock]))).trans (by simp [go_sem]))
 all_goals
  go_wp2
  have hB1:Below w.heap.size w w1:=hB3.grown hg1 (by simp; omega) (fun k hk=>by simp [Value.ownBlock] at hk; omega)
  have hgne:g ≠ w.heap.size + 1:=by
   intro hx
   subst hx
   have hO:Own w1 w.heap.size (.slice (some ⟨w.heap.size + 1,0,none⟩) cs.length cap') cs:=hO1
   have hc:=(hO.cell rfl 0 hp).1
   have hc2:=(hO.cell rfl 0 hp).2.1
   simp only [Nat.zero_mul,Nat.zero_add] at hc2
   rw [q1] at hc2
   simp at hc2
  refine bodyPost_ret (v:=.agg #[.int .i64 wd,.slice (some ⟨g,0,none⟩) cs.length cap']) (by simp [results,Tryz.results27,go_sem,q0,q1]) rfl ⟨g,cap',rfl,?_,?_⟩
  ·exact (Own.other (Own.other hO1 hgne _) hgne _)
  ·exact (hB1.setCell (by simp) _).setCell (by simp) _
end Sp
namespace Sp
variable {aLt:Nat->Func->Func}
open Go.RowKit
end Sp
namespace Sp
variable {aLt:Nat->Func->Func}
open Go.RowKit
end Sp
end Go.Proofs.YtfbbcooklhmeaaaGreat
