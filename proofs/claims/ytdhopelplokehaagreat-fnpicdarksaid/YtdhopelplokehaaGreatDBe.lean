/- Of the proof: NJt -/
import Derived.Test.YtdhopelplokehaaGreatDAx
import Derived.Test.YtdhopelplokehaaGreatDBd
set_option maxHeartbeats 4000000
set_option linter.unusedVariables false
namespace Go.Proofs.YtdhopelplokehaaGreat
namespace Sp.Sn
open Go.RowKit
end Sp.Sn
namespace Sp.Sn
open Go.RowKit
theorem infoBeam:(SqN.prog.info? 161).map (fun i=>(i.zero,i.size,i.bytes))=some (some (.agg #[.int .i64 0,.int .i64 0,.int .i64 0]),3,24):=by kernel_rfl
end Sp.Sn
namespace Sp.Sn
open Go.RowKit
theorem passL_any (wt:Int) (w:World) :
  Calls SqN.prog 120 #[.int .i64 wt] w fun e w'=>e=.returned (.agg #[.int .i64 0,.int .i64 0,.int .i64 wt,.int .i64 0])/\Below w.heap.size w w':=by
 go_enter SqN.func120,Tryz.ntmps120
 go_wp2
 refine bodyPost_ret (v:=.agg #[.int .i64 0,.int .i64 0,.int .i64 wt,.int .i64 0]) (by simp [results,Tryz.results120,go_sem]) rfl ⟨rfl,?_⟩
 exact bel
theorem turnL_any (wt:Int) (w:World) :
  Calls SqN.prog 122 #[.int .i64 wt] w fun e w'=>e=.returned (.agg #[.int .i64 0,.int .i64 0,.int .i64 0,.int .i64 wt])/\Below w.heap.size w w':=by
 go_enter SqN.func122,Tryz.ntmps122
 go_wp2
 refine bodyPost_ret (v:=.agg #[.int .i64 0,.int .i64 0,.int .i64 0,.int .i64 wt]) (by simp [results,Tryz.results122,go_sem]) rfl ⟨rfl,?_⟩
 exact bel
theorem blockL_any (wt:Int) (w:World) :
  Calls SqN.prog 121 #[.int .i64 wt] w fun e w'=>e=.returned (.agg #[.int .i64 1,.int .i64 wt,.int .i64 0,.int .i64 0])/\Below w.heap.size w w':=by
 go_enter SqN.func121,Tryz.ntmps121
 go_wp2
 refine bodyPost_ret (v:=.agg #[.int .i64 1,.int .i64 wt,.int .i64 0,.int .i64 0]) (by simp [results,Tryz.results121,go_sem]) rfl ⟨rfl,?_⟩
 exact bel
theorem seeL_any (wt:Int) (w:World) :
  Calls SqN.prog 125 #[.int .i64 wt] w fun e w'=>e=.returned (.agg #[.int .i64 2,.int .i64 wt,.int .i64 0,.int .i64 0])/\Below w.heap.size w w':=by
 go_enter SqN.func125,Tryz.ntmps125
 go_wp2
 refine bodyPost_ret (v:=.agg #[.int .i64 2,.int .i64 wt,.int .i64 0,.int .i64 0]) (by simp [results,Tryz.results125,go_sem]) rfl ⟨rfl,?_⟩
 exact bel
theorem splitL_any (wt hf m:Nat) (hw:wt<=64) (ehf:wt / 2=hf) (em:wt - 2 * hf=m) (w:World) :
  Calls SqN.prog 123 #[.int .i64 (wt:Int)] w fun e w'=>e=.returned (.agg #[.int .i64 3,.int .i64 (m:Int),.int .i64 (hf:Int),.int .i64 (hf:Int)])/\Below w.heap.size w w':=by
 have q1:(wt:Int).tdiv 2=(hf:Int):=by rw [Int.tdiv_eq_ediv_of_nonneg (by omega)]; omega
 have q2:(wt:Int) / 2=(hf:Int):=by omega
 have q3:(wt:Int) - 2 * (hf:Int)=(m:Int):=by omega
 have hh:hf<=64:=by omega
 clear ehf em
 go_enter SqN.func123,Tryz.ntmps123
 go_wp2
 refine bodyPost_ret (v:=.agg #[.int .i64 3,.int .i64 (m:Int),.int .i64 (hf:Int),.int .i64 (hf:Int)]) (by simp [results,Tryz.results123,go_sem]) rfl ⟨rfl,?_⟩
 exact bel
theorem dimL_any (wt hf m:Nat) (hw:wt<=64) (ehf:wt / 2=hf) (em:wt - hf=m) (w:World) :
  Calls SqN.prog 124 #[.int .i64 (wt:Int)] w fun e w'=>e=.returned (.agg #[.int .i64 3,.int .i64 (m:Int),.int .i64 (hf:Int),.int .i64 0])/\Below w.heap.size w w':=by
 have q1:(wt:Int).tdiv 2=(hf:Int):=by rw [Int.tdiv_eq_ediv_of_nonneg (by omega)]; omega
 have q2:(wt:Int) / 2=(hf:Int):=by omega
 have q3:(wt:Int) - (hf:Int)=(m:Int):=by omega
 have hh:hf<=64:=by omega
 clear ehf em
 go_enter SqN.func124,Tryz.ntmps124
 go_wp2
 refine bodyPost_ret (v:=.agg #[.int .i64 3,.int .i64 (m:Int),.int .i64 (hf:Int),.int .i64 0]) (by simp [results,Tryz.results124,go_sem]) rfl ⟨rfl,?_⟩
 exact bel
theorem deeds_any (w:World) :
  Calls SqN.prog 104 #[] w fun e w'=>e=.returned (.agg deedsA)/\Below w.heap.size w w':=by
 unfold deedsA
 go_enter SqN.func104,Tryz.ntmps104
 go_wp2
 refine bodyPost_ret (v:=.agg #[.func (.func 120) #[] #[],.func (.func 121) #[] #[],.func (.func 122) #[] #[],.func (.func 122) #[] #[],.func (.func 123) #[] #[],.func (.func 123) #[] #[],.func (.func 124) #[] #[],.func (.func 125) #[] #[]]) (by simp [results,Tryz.results104,go_sem]) rfl ⟨rfl,?_⟩
 exact bel
theorem deed_at (k:Int) (h0:0<=k) (h7:k<=7) (w:World):Sem.run SqN.prog (Instr.index 153 (.agg deedsA) (.int .i64 k)) w=.ok (.func (.func (deedF k)) #[] #[]) w:=by
 rcases (show k=0\/k=1\/k=2\/k=3\/k=4\/k=5\/k=6\/k=7 by omega) with rfl | rfl | rfl | rfl | rfl | rfl | rfl | rfl <;> kernel_rfl
end Sp.Sn
namespace Sp.Sn
open Go.RowKit
attribute [local go_sem ↓] Go.wp_at_zero Go.wp_at_succ
set_option maxRecDepth 20000 in
theorem endI_any {w:World} {B pb:Nat} {v:Nat->Value} {A E G:List (Int × Int × Int)} (h:Tk w B pb v (rows3 A E G)) (x y:Int) (wt:Nat) (hw:wt<=64) (hl:E.length<=1000000) :
  Calls SqN.prog 105 #[.pointer (some ⟨pb,0,none⟩),.agg #[.int .i64 x,.int .i64 y,.int .i64 (wt:Int)]] w fun r w'=>r=.returned (.tuple #[])/\(∃ v2,Tk w' B pb v2 (rows3 A (E ++ one3 x y wt) G)/\Fr w w' pb v v2):=by
 obtain ⟨i0,hi,iz0,iz1,iz2⟩:=info_parts infoEnd
 have hpb:=h.lt
 have hB:=h.hB
 have hbX:Below w.heap.size w (w.alloc (.cells #[.int .i64 x,.int .i64 y,.int .i64 (wt:Int)] 62)):=bel
 have h1:=h.below hbX
 by_cases h0:wt=0
 ·subst h0
  have hT:E ++ one3 x y 0=E:=by simp [one3]
  rw [hT]
  clear hT
  go_enter SqN.func105,Tryz.ntmps105
  go_wp2
  exact bodyPost_end (v:=.tuple #[]) (by simp [results,Tryz.results105,go_sem]) rfl ⟨rfl,v,h1,Fr.of hbX⟩
 ·have hT:one3 x y wt=[(x,y,(wt:Int))]:=by simp [one3,h0]
  rw [hT]
  clear hT
  have hp:(0:Int) < (wt:Int):=by omega
  obtain ⟨w0,hw0⟩:∃ w0,w0=w.alloc (.cells #[.int .i64 x,.int .i64 y,.int .i64 (wt:Int)] 62):=⟨_,rfl⟩
  have e0:w0.cell? ⟨w.heap.size,0,none⟩=some (.int .i64 x):=by rw [hw0]; simp [go_sem]
  have e1:w0.cell? ⟨w.heap.size,1,none⟩=some (.int .i64 y):=by rw [hw0]; simp [go_sem]
  have e2:w0.cell? ⟨w.heap.size,2,none⟩=some (.int .i64 (wt:Int)):=by rw [hw0]; simp [go_sem]
  have hs0:w0.heap.size=w.heap.size + 1:=by rw [hw0]; simp
  rw [<- hw0] at hbX h1
  have cj:=h1.c 1 (by omega)
  have o1:w0.ownsRow B 62 3 (v 1) E.length (flat3 E):=h1.o 1 (by omega)
  have hbA:Below w0.heap.size w0 (w0.alloc (.cells #[.int .i64 x,.int .i64 y,.int .i64 (wt:Int)] 62)):=bel
  have cj':=keepc hbA cj
  have HS:Hid (w0.heap.size=w.heap.size + 1):=hs0
  have hB0:B<=w0.heap.size:=by omega
  clear hs0
  go_enter SqN.func105,Tryz.ntmps105
  go_wp2
  rw [<- hw0]
  clear hw0
  go_region_law
   ((refine step_append_lies _ (by rfl) _ _ _ (by rfl) B 62 i0 (.agg #[.int .i64 0,.int .i64 0,.int .i64 0]) 3 24 SqN.underlying56 hi iz0 iz1 iz2 rfl (by omega) (v 1) E.length (flat3 E) (by rfl) (by first | exact o1.alloc _ | exact (o1.alloc _).drew) ⟨w0.heap.size,0,none⟩ 1 1 [.int .i64 x,.int .i64 y,.int .i64 (wt:Int)] (by rfl) rfl (World.news_of_block (cs:=#[.int .i64 x,.int .i64 y,.int .i64 (wt:Int)]) (t:=62) (fr:=(0,0)) (heap_alloc_new w0 _)) (by simp [Value.oneCell']) (by omega) (by unfold maxLen; omega) (by omega) (by simp; omega) (w0.heap.size + 1) (by simp) ?_; intro g6 k6 w6 hO6 hg6' hat6 hlt6; have hg6:(w0.alloc (.cells #[.int .i64 x,.int .i64 y,.int .i64 (wt:Int)] 62)).grownBy w6 (v 1).ownBlock:=(by first | exact hg6' | exact grown_drew hg6'); obtain ⟨r3,v7,hT7,hf7⟩:=h1.push1 hO6 hg6 hat6; have r4:∀ i u,w0.cell? ⟨w.heap.size,i,none⟩=some u->w6.cell? ⟨w.heap.size,i,none⟩=some u:=(fun i u q=>hg6.cell (keepc hbA q) (fun z=>absurd ((h.o 1 (by omega)).lt w.heap.size z.symm).2 (Nat.lt_irrefl _)))))
  all_goals
   obtain ⟨r5,r6⟩:=r3
   clear r4 hO6 hg6 hg6'
   go_wp2
   exact bodyPost_end (v:=.tuple #[]) (by simp [results,Tryz.results105,go_sem]) rfl ⟨rfl,v7,hT7,(Fr.of hbX).trans hf7⟩
set_option maxRecDepth 20000 in
theorem leaveI_any {w:World} {B pb:Nat} {v:Nat->Value} {A E G:List (Int × Int × Int)} (h:Tk w B pb v (rows3 A E G)) (x y:Int) (wt:Nat) (hw:wt<=64) (hl:G.length<=1000000) :
  Calls SqN.prog 106 #[.pointer (some ⟨pb,0,none⟩),.agg #[.int .i64 x,.int .i64 y,.int .i64 (wt:Int)]] w fun r w'=>r=.returned (.tuple #[])/\(∃ v2,Tk w' B pb v2 (rows3 A E (G ++ one3 x y wt))/\Fr w w' pb v v2):=by
 obtain ⟨i0,hi,iz0,iz1,iz2⟩:=info_parts infoBeam
 have hpb:=h.lt
 have hB:=h.hB
 have hbX:Below w.heap.size w (w.alloc (.cells #[.int .i64 x,.int .i64 y,.int .i64 (wt:Int)] 161)):=bel
 have h1:=h.below hbX
 by_cases h0:wt=0
 ·subst h0
  have hT:G ++ one3 x y 0=G:=by simp [one3]
  rw [hT]
  clear hT
  go_enter SqN.func106,Tryz.ntmps106
  go_wp2
  exact bodyPost_end (v:=.tuple #[]) (by simp [results,Tryz.results106,go_sem]) rfl ⟨rfl,v,h1,Fr.of hbX⟩
 ·have hT:one3 x y wt=[(x,y,(wt:Int))]:=by simp [one3,h0]
  rw [hT]
  clear hT
  have hp:(0:Int) < (wt:Int):=by omega
  obtain ⟨w0,hw0⟩:∃ w0,w0=w.alloc (.cells #[.int .i64 x,.int .i64 y,.int .i64 (wt:Int)] 161):=⟨_,rfl⟩
  have e0:w0.cell? ⟨w.heap.size,0,none⟩=some (.int .i64 x):=by rw [hw0]; simp [go_sem]
  have e1:w0.cell? ⟨w.heap.size,1,none⟩=some (.int .i64 y):=by rw [hw0]; simp [go_sem]
  have e2:w0.cell? ⟨w.heap.size,2,none⟩=some (.int .i64 (wt:Int)):=by rw [hw0]; simp [go_sem]
  have hs0:w0.heap.size=w.heap.size + 1:=by rw [hw0]; simp
  rw [<- hw0] at hbX h1
  have cj:=h1.c 2 (by omega)
  have o1:w0.ownsRow B 161 3 (v 2) G.length (flat3 G):=h1.o 2 (by omega)
  have hbA:Below w0.heap.size w0 (w0.alloc (.cells #[.int .i64 x,.int .i64 y,.int .i64 (wt:Int)] 161)):=bel
  have cj':=keepc hbA cj
  have HS:Hid (w0.heap.size=w.heap.size + 1):=hs0
  have hB0:B<=w0.heap.size:=by omega
  clear hs0
  go_enter SqN.func106,Tryz.ntmps106
  go_wp2
  rw [<- hw0]
  clear hw0
  go_region_law
   ((refine step_append_lies _ (by rfl) _ _ _ (by rfl) B 161 i0 (.agg #[.int .i64 0,.int .i64 0,.int .i64 0]) 3 24 SqN.underlying57 hi iz0 iz1 iz2 rfl (by omega) (v 2) G.length (flat3 G) (by rfl) (by first | exact o1.alloc _ | exact (o1.alloc _).drew) ⟨w0.heap.size,0,none⟩ 1 1 [.int .i64 x,.int .i64 y,.int .i64 (wt:Int)] (by rfl) rfl (World.news_of_block (cs:=#[.int .i64 x,.int .i64 y,.int .i64 (wt:Int)]) (t:=161) (fr:=(0,0)) (heap_alloc_new w0 _)) (by simp [Value.oneCell']) (by omega) (by unfold maxLen; omega) (by omega) (by simp; omega) (w0.heap.size + 1) (by simp) ?_; intro g6 k6 w6 hO6 hg6' hat6 hlt6; have hg6:(w0.alloc (.cells #[.int .i64 x,.int .i64 y,.int .i64 (wt:Int)] 161)).grownBy w6 (v 2).ownBlock:=(by first | exact hg6' | exact grown_drew hg6'); obtain ⟨r3,v7,hT7,hf7⟩:=h1.push2 hO6 hg6 hat6; have r4:∀ i u,w0.cell? ⟨w.heap.size,i,none⟩=some u->w6.cell? ⟨w.heap.size,i,none⟩=some u:=(fun i u q=>hg6.cell (keepc hbA q) (fun z=>absurd ((h.o 2 (by omega)).lt w.heap.size z.symm).2 (Nat.lt_irrefl _)))))
  all_goals
   obtain ⟨r5,r6⟩:=r3
   clear r4 hO6 hg6 hg6'
   go_wp2
   exact bodyPost_end (v:=.tuple #[]) (by simp [results,Tryz.results106,go_sem]) rfl ⟨rfl,v7,hT7,(Fr.of hbX).trans hf7⟩
end Sp.Sn
namespace Sp.Sn
open Go.RowKit
attribute [local go_sem ↓] Go.wp_at_zero Go.wp_at_succ
theorem deed_enter (k:Int) (h0:0<=k) (h7:k<=7) (args:Array Value) (w:World):Sem.run SqN.prog (callFunc (deedF k) args) w=.ok (.enter (deedF k) args) w:=by
 rcases (show k=0\/k=1\/k=2\/k=3\/k=4\/k=5\/k=6\/k=7 by omega) with rfl | rfl | rfl | rfl | rfl | rfl | rfl | rfl <;> kernel_rfl
theorem deed_any (k:Int) (hk:0<=k/\k<=7) (wt:Nat) (hw:wt<=64) {how:Int} {en on tu:Nat} (hf:fateN k wt=(how,en,on,tu)) (w:World) :
  Calls SqN.prog (deedF k) #[.int .i64 (wt:Int)] w fun e w'=>e=.returned (.agg #[.int .i64 how,.int .i64 (en:Int),.int .i64 (on:Int),.int .i64 (tu:Int)])/\Below w.heap.size w w':=by
 rcases (show k=0\/k=1\/k=2\/k=3\/k=4\/k=5\/k=6\/k=7 by omega) with rfl | rfl | rfl | rfl | rfl | rfl | rfl | rfl
 all_goals (simp [fateN] at hf; obtain ⟨rfl,rfl,rfl,rfl⟩:=hf)
 ·exact passL_any _ w
 ·exact blockL_any _ w
 ·exact turnL_any _ w
 ·exact turnL_any _ w
 ·exact splitL_any wt _ _ hw rfl rfl w
 ·exact splitL_any wt _ _ hw rfl rfl w
 ·exact dimL_any wt _ _ hw rfl rfl w
 ·exact seeL_any _ w
set_option maxRecDepth 20000 in
theorem visitI_any {w:World} {B pb:Nat} {v:Nat->Value} {A E G:List (Int × Int × Int)} (h:Tk w B pb v (rows3 A E G)) {wd:Int} {cs:List (Int × Int)} (a:Option Addr) (cap:Nat) (hC:CellsAt w a cs) (ha:∀ b off,a=some ⟨b,off,none⟩->b < B)
  (x d:Int) (hs:okS cs (x,d)) (hn:cs.length<=25) (hk:0<=kd cs x/\kd cs x<=7) (wt:Nat) (hw:wt<=64) (hl:A.length<=900000/\E.length<=900000/\G.length<=900000) {how:Int} {en on tu:Nat} (hf:fateN (kd cs x) wt=(how,en,on,tu)) :
  Calls SqN.prog 68 #[.pointer (some ⟨pb,0,none⟩),.agg #[.int .i64 wd,.slice a cs.length cap],.agg #[.int .i64 x,.int .i64 d,.int .i64 (wt:Int)]] w fun r w'=>r=.returned (.tuple #[]) /\
   ∃ v2,Tk w' B pb v2 (rows3 (A ++ [(x,d,(wt:Int))]) (E ++ one3 how x en) (G ++ one3 x (turnD (kd cs x) d) tu ++ one3 x d on))/\Fr w w' pb v v2:=by
 obtain ⟨i0,hi,iz0,iz1,iz2⟩:=info_parts infoVisit
 have hpb:=h.lt
 have hB:=h.hB
 obtain ⟨X,rfl⟩:=Int.eq_ofNat_of_zero_le hs.1.1
 have hX:X < cs.length:=by have:=hs.1.2; simp only at this; omega
 obtain ⟨k,ek⟩:∃ k,kd cs (X:Int)=k:=⟨_,rfl⟩
 rw [ek] at hk hf ⊢
 obtain ⟨tk,etk⟩:∃ t,turnD k d=t:=⟨_,rfl⟩
 rw [etk]
 obtain ⟨l1,l2,l3⟩:=fate_le _ _ hf
 have hk0:=hk.1
 have hk7:=hk.2
 have HK:Hid (kd cs (X:Int)=k):=ek
 have HT:Hid (turnD k d=tk):=etk
 have HF:Hid (fateN k wt=(how,en,on,tu)):=hf
 have hdd:=deed_at k hk0 hk7
 have hde:=deed_enter k hk0 hk7
 have hXi:(X:Int) < (cs.length:Int):=by omega
 clear ek etk hf
 obtain ⟨b,off,ea,HC0⟩:∃ b off,a=some ⟨b,off,none⟩/\Hid (w.cell? ⟨b,off + X * 2,none⟩=some (.int .i64 k)):=by
  rcases hC with q | ⟨b,off,q,_,hc⟩
  ·rw [q] at hX; simp at hX
  ·refine ⟨b,off,q,?_⟩
   show _=_
   rw [(hc X hX).1,<- HK.out]
   simp [kd]
 subst ea
 have hbB:=ha b off rfl
 obtain ⟨w0,hw0⟩:∃ w0,w0=(w.alloc (.cells #[.int .i64 wd,.slice (some ⟨b,off,none⟩) cs.length cap] 25)).alloc (.cells #[.int .i64 (X:Int),.int .i64 d,.int .i64 (wt:Int)] 108):=⟨_,rfl⟩
 have hbX:Below w.heap.size w w0:=by rw [hw0]; exact bel
 have h1:=h.below hbX
 have g1:w0.cell? ⟨w.heap.size,1,none⟩=some (.slice (some ⟨b,off,none⟩) cs.length cap):=by rw [hw0]; simp [go_sem]
 have e0:w0.cell? ⟨w.heap.size + 1,0,none⟩=some (.int .i64 (X:Int)):=by rw [hw0]; simp [go_sem]
 have e1:w0.cell? ⟨w.heap.size + 1,1,none⟩=some (.int .i64 d):=by rw [hw0]; simp [go_sem]
 have e2:w0.cell? ⟨w.heap.size + 1,2,none⟩=some (.int .i64 (wt:Int)):=by rw [hw0]; simp [go_sem]
 have kc:w0.cell? ⟨b,off + X * 2,none⟩=some (.int .i64 k):=keepc hbX HC0.out
 have hs0:w.heap.size + 2<=w0.heap.size:=by rw [hw0]; simp
 have cj:=h1.c 0 (by omega)
 have o1:w0.ownsRow B 108 3 (v 0) A.length (flat3 A):=h1.o 0 (by omega)
 have hbA:Below w0.heap.size w0 (w0.alloc (.cells #[.int .i64 (X:Int),.int .i64 d,.int .i64 (wt:Int)] 108)):=bel
 have cj':=keepc hbA cj
 have hB0:B<=w0.heap.size:=by omega
 have fg:Far v pb w.heap.size:=h.far (Nat.le_refl _)
 have fe:Far v pb (w.heap.size + 1):=h.far (by omega)
 have fb:Far v pb b:=h.farB hbB
 go_enter SqN.func68,Tryz.ntmps68
 go_wp2
 rw [<- hw0]
 clear hw0
 go_cut [] (fun wc=>∃ v7,Tk wc B pb v7 (rows3 (A ++ [((X:Int),d,(wt:Int))]) E G)/\Fr w0 wc pb v v7)
 case first =>
  go_region_law
   ((refine step_append_lies _ (by rfl) _ _ _ (by rfl) B 108 i0 (.agg #[.int .i64 0,.int .i64 0,.int .i64 0]) 3 24 SqN.underlying55 hi iz0 iz1 iz2 rfl (by omega) (v 0) A.length (flat3 A) (by rfl) (by first | exact o1.alloc _ | exact (o1.alloc _).drew) ⟨w0.heap.size,0,none⟩ 1 1 [.int .i64 (X:Int),.int .i64 d,.int .i64 (wt:Int)] (by rfl) rfl (World.news_of_block (cs:=#[.int .i64 (X:Int),.int .i64 d,.int .i64 (wt:Int)]) (t:=108) (fr:=(0,0)) (heap_alloc_new w0 _)) (by simp [Value.oneCell']) (by omega) (by unfold maxLen; omega) (by omega) (by simp; omega) (w0.heap.size + 1) (by simp) ?_; intro g6 k6 w6 hO6 hg6' hat6 hlt6; have hg6:(w0.alloc (.cells #[.int .i64 (X:Int),.int .i64 d,.int .i64 (wt:Int)] 108)).grownBy w6 (v 0).ownBlock:=(by first | exact hg6' | exact grown_drew hg6'); obtain ⟨r3,v7,hT7,hf7⟩:=h1.push0 hO6 hg6 hat6; have r4:∀ i u,w0.cell? ⟨w.heap.size + 1,i,none⟩=some u->w6.cell? ⟨w.heap.size + 1,i,none⟩=some u:=(fun i u q=>hg6.cell (keepc hbA q) (fun z=>absurd ((h.o 0 (by omega)).lt (w.heap.size + 1) z.symm).2 (by omega)))))
  all_goals
   obtain ⟨r5,r6⟩:=r3
   clear r4 hO6 hg6 hg6'
   go_wp2_with fail
   go_meet
   case rel=>exact ⟨v7,hT7,hf7⟩
 case rest =>
  obtain ⟨v7,hT7,hf7⟩:=hcut
  rename World=>w7
  replace g1:=hf7.cell fg g1
  replace e0:=hf7.cell fe e0
  replace e1:=hf7.cell fe e1
  replace e2:=hf7.cell fe e2
  replace kc:=hf7.cell fb kc
  replace fe:=hf7.far (by omega) fe
  have hF7:=(Fr.of (v:=v) (pb:=pb) hbX).trans hf7
  have hz7:=hf7.size
  clear cj cj' o1 hbA h1
  go_wp2_with fail
  refine (deeds_any _).mono ?_
  rintro e w8 ⟨rfl,hb8⟩
  have hT8:=hT7.below hb8
  have hF8:=hF7.trans (Fr.of hb8)
  have hz8:=hb8.size
  replace e0:=keepc hb8 e0; replace e1:=keepc hb8 e1; replace e2:=keepc hb8 e2
  clear hb8 hT7 hF7 hf7
  go_wp2_with fail
  refine (deed_any k ⟨hk0,hk7⟩ wt hw HF.out _).mono ?_
  rintro e w9 ⟨rfl,hb9⟩
  have hbY:Below w9.heap.size w9 (w9.alloc (.cells #[.int .i64 how,.int .i64 (en:Int),.int .i64 (on:Int),.int .i64 (tu:Int)] 156)):=bel
  have hT9:=(hT8.below hb9).below hbY
  have hF9:=(hF8.trans (Fr.of hb9)).trans (Fr.of hbY)
  have hz9:=hb9.size
  replace e0:=keepc hb9 e0; replace e1:=keepc hb9 e1; replace e2:=keepc hb9 e2
  replace e0:=keepc hbY e0; replace e1:=keepc hbY e1; replace e2:=keepc hbY e2
  have b0:(w9.alloc (.cells #[.int .i64 how,.int .i64 (en:Int),.int .i64 (on:Int),.int .i64 (tu:Int)] 156)).cell? ⟨w9.heap.size,0,none⟩=some (.int .i64 how):=by simp [go_sem]
  have b1:(w9.alloc (.cells #[.int .i64 how,.int .i64 (en:Int),.int .i64 (on:Int),.int .i64 (tu:Int)] 156)).cell? ⟨w9.heap.size,1,none⟩=some (.int .i64 (en:Int)):=by simp [go_sem]
  have b2:(w9.alloc (.cells #[.int .i64 how,.int .i64 (en:Int),.int .i64 (on:Int),.int .i64 (tu:Int)] 156)).cell? ⟨w9.heap.size,2,none⟩=some (.int .i64 (on:Int)):=by simp [go_sem]
  have b3:(w9.alloc (.cells #[.int .i64 how,.int .i64 (en:Int),.int .i64 (on:Int),.int .i64 (tu:Int)] 156)).cell? ⟨w9.heap.size,3,none⟩=some (.int .i64 (tu:Int)):=by simp [go_sem]
  have fy:Far v7 pb w9.heap.size:=(hT8.below hb9).far (Nat.le_refl _)
  have sy:w9.heap.size < (w9.alloc (.cells #[.int .i64 how,.int .i64 (en:Int),.int .i64 (on:Int),.int .i64 (tu:Int)] 156)).heap.size:=by simp
  clear hb9 hbY hT8 hF8
  go_wp2_with fail
  obtain ⟨wa,hwa⟩:∃ wa,wa=w9.alloc (.cells #[.int .i64 how,.int .i64 (en:Int),.int .i64 (on:Int),.int .i64 (tu:Int)] 156):=⟨_,rfl⟩
  rw [<- hwa] at hT9 hF9 e0 e1 e2 b0 b1 b2 b3 sy ⊢
  clear hwa
  refine (endI_any hT9 how (X:Int) en (by omega) (by omega)).mono ?_
  rintro r wb ⟨rfl,v10,hT10,hf10⟩
  have hF10:=hF9.trans hf10
  replace e0:=hf10.cell fe e0
  replace e1:=hf10.cell fe e1
  replace b2:=hf10.cell fy b2
  replace b3:=hf10.cell fy b3
  have fe2:=hf10.far (by omega) fe
  have fy2:=hf10.far sy fy
  have hz10:=hf10.size
  clear hf10 hT9 hF9 b0 b1 e2 fe fy
  go_wp2
  go_region_held3 (fun w'=>w'.cell? ⟨w.heap.size + 1,0,none⟩=some (.int .i64 (X:Int))/\w'.cell? ⟨w.heap.size + 1,1,none⟩=some (.int .i64 d)/\w'.cell? ⟨w9.heap.size,3,none⟩=some (.int .i64 (tu:Int)))
   (first
    | with_reducible exact ⟨e0,e1,b3⟩
    | with_reducible exact ⟨keepc hbD e0,keepc hbD e1,keepc hbD b3⟩
    | with_reducible exact ⟨hf11.cell fe2 (keepc hbD e0),hf11.cell fe2 (keepc hbD e1),hf11.cell fy2 (keepc hbD b3)⟩
    | go_keep)
   (first
    | (go_at_call 107; refine (implDirTurn_any k d _).mono ?_; rintro r wd' ⟨rfl,hbD'⟩; have hbD:Below wb.heap.size wb wd':=(by first | exact hbD' | exact bdrew hbD'); have hT11:=hT10.below hbD; have hF11:=hF10.trans (Fr.of hbD); rw [HT.out])
    | (go_at_call 106; refine (leaveI_any hT11 (X:Int) tk tu (by omega) (by omega)).mono ?_; rintro r wc ⟨rfl,v12,hT12,hf11⟩)
    | fail)
  all_goals
   have hF12:=hF11.trans hf11
   replace e0:=hf11.cell fe2 (keepc hbD e0)
   replace e1:=hf11.cell fe2 (keepc hbD e1)
   replace b2:=hf11.cell fy2 (keepc hbD b2)
   have hl12:(G ++ one3 (X:Int) tk tu).length<=1000000:=by have:=(one3_len (X:Int) tk tu).1; simp only [List.length_append]; omega
   clear hf11 hT10 hF10 hbD hbD' hT11 hF11 b3
   go_wp2_with fail
   refine (leaveI_any hT12 (X:Int) d on (by omega) hl12).mono ?_
   rintro r we ⟨rfl,v13,hT13,hf13⟩
   have hF13:=hF12.trans hf13
   go_wp2_with fail
   exact bodyPost_end (v:=.tuple #[]) (by simp [results,Tryz.results68,go_sem]) rfl ⟨rfl,v13,hT13,hF13⟩
end Sp.Sn
namespace Sp.Sn
open Go.RowKit
attribute [local go_sem ↓] Go.wp_at_zero Go.wp_at_succ
set_option maxRecDepth 20000 in
theorem followI_any {wd:Int} {cs:List (Int × Int)} {W H:Nat} (S:Siz wd cs W H) {w:World} {B pb:Nat} {v:Nat->Value} {A E l:List (Int × Int × Int)} {x e:Int} {h:Nat} (hT:Tk w B pb v (rows3 A E (l ++ [(x,e,(h:Int))]))) (a:Option Addr) (cap:Nat) (hC:CellsAt w a cs) (ha:∀ b off,a=some ⟨b,off,none⟩->b < B)
  (hok:∀ c ∈ l ++ [(x,e,(h:Int))],okB wd cs c) (hl:A.length<=900000/\E.length<=900000/\l.length<=800000) :
  Calls SqN.prog 69 #[.pointer (some ⟨pb,0,none⟩),.agg #[.int .i64 wd,.slice a cs.length cap]] w fun r w'=>r=.returned (.tuple #[]) /\
   ∃ v2 A' E' G',Tk w' B pb v2 (rows3 A' E' G')/\Fr w w' pb v v2/\StepTo wd cs A E l (x,e,(h:Int)) A' E' G':=by
 have hpb:=hT.lt
 have hB:=hT.hB
 have hbk:=hok (x,e,(h:Int)) (by simp)
 have hw1:=hbk.2.1
 simp only at hw1
 have h0:h ≠ 0:=by omega
 have h64:h<=64:=by omega
 have hn:cs.length<=25:=by rw [S.el]; exact Nat.le_trans (Nat.mul_le_mul S.hW.2 S.hH.2) (by omega)
 obtain ⟨g,c2,hv,hc1,hc2,hgw,hgp,⟨k0,k1,k2⟩,hpop⟩:=hT.pop2
 simp only at k0 k1 k2
 have cj:=hT.c 2 (by omega)
 rw [hv] at cj
 have fj:=hT.f 2 (by omega)
 have hb1:Below w.heap.size w (w.alloc (.cells #[.int .i64 wd,.slice a cs.length cap] 25)):=bel
 have hb2:Below w.heap.size w ((w.alloc (.cells #[.int .i64 wd,.slice a cs.length cap] 25)).alloc (.cells #[.int .i64 x,.int .i64 e,.int .i64 (h:Int)] 161)):=bel
 obtain ⟨v2,hT2,hf2⟩:=hpop w (Below.refl _ _)
 have c1:(w.alloc (.cells #[.int .i64 wd,.slice a cs.length cap] 25)).cell? ⟨pb,2,none⟩=some (.slice (some ⟨g,0,none⟩) (l.length + 1) c2):=keepc hb1 cj
 have c2':((w.alloc (.cells #[.int .i64 wd,.slice a cs.length cap] 25)).alloc (.cells #[.int .i64 x,.int .i64 e,.int .i64 (h:Int)] 161)).cell? ⟨pb,2,none⟩=some (.slice (some ⟨g,0,none⟩) (l.length + 1) c2):=keepc hb2 cj
 have f2':((w.alloc (.cells #[.int .i64 wd,.slice a cs.length cap] 25)).alloc (.cells #[.int .i64 x,.int .i64 e,.int .i64 (h:Int)] 161)).frozen? ⟨pb,2,none⟩=false:=keepf hb2 cj fj
 have m0:(w.alloc (.cells #[.int .i64 wd,.slice a cs.length cap] 25)).cell? ⟨g,l.length * 3,none⟩=some (.int .i64 x):=keepc hb1 k0
 have m1:(w.alloc (.cells #[.int .i64 wd,.slice a cs.length cap] 25)).cell? ⟨g,l.length * 3 + 1,none⟩=some (.int .i64 e):=keepc hb1 k1
 have m2:(w.alloc (.cells #[.int .i64 wd,.slice a cs.length cap] 25)).cell? ⟨g,l.length * 3 + 2,none⟩=some (.int .i64 (h:Int)):=keepc hb1 k2
 obtain ⟨ws,hws⟩:∃ ws,ws=w.setCell ⟨pb,2,none⟩ (.slice (some ⟨g,0,none⟩) l.length c2):=⟨_,rfl⟩
 have zs:ws.heap.size=w.heap.size:=by rw [hws]; simp
 obtain ⟨u,hu⟩:∃ u,u=(ws.alloc (.cells #[.int .i64 wd,.slice a cs.length cap] 25)).alloc (.cells #[.int .i64 x,.int .i64 e,.int .i64 (h:Int)] 161):=⟨_,rfl⟩
 rw [<- hws] at hT2 hf2
 have hbU:Below ws.heap.size ws u:=by rw [hu]; exact bel
 have g0:u.cell? ⟨w.heap.size,0,none⟩=some (.int .i64 wd):=by rw [hu,<- zs]; simp [go_sem]
 have g1:u.cell? ⟨w.heap.size,1,none⟩=some (.slice a cs.length cap):=by rw [hu,<- zs]; simp [go_sem]
 have e0:u.cell? ⟨w.heap.size + 1,0,none⟩=some (.int .i64 x):=by rw [hu,<- zs]; simp [go_sem]
 have e1:u.cell? ⟨w.heap.size + 1,1,none⟩=some (.int .i64 e):=by rw [hu,<- zs]; simp [go_sem]
 have e2:u.cell? ⟨w.heap.size + 1,2,none⟩=some (.int .i64 (h:Int)):=by rw [hu,<- zs]; simp [go_sem]
 have fgr:Far v2 pb w.heap.size:=hT2.far (by omega)
 have fbm:Far v2 pb (w.heap.size + 1):=hT2.far (by omega)
 have hT3:=hT2.below hbU
 have hF3:=hf2.trans (Fr.of hbU)
 have hC3:=hC.belowB ha (hF3.below hT)
 have zu:w.heap.size + 2<=u.heap.size:=by rw [hu]; simp; omega
 have HZ:Hid (ws.heap.size=w.heap.size):=zs
 have HOK:Hid (∀ c ∈ l ++ [(x,e,(h:Int))],okB wd cs c):=hok
 clear hpop hbU hT2 hf2 zs
 have hll:(l.length:Int) + 1<=(c2:Int):=by omega
 have hcm:(c2:Int)<=9223372036854775807:=by unfold maxLen at hc2; omega
 have hl3:(l.length:Int)<=800000:=by omega
 obtain ⟨x2,d2,b2,ev⟩:∃ x2 d2 b2,rayN wd cs x e=(x2,d2,b2):=⟨_,_,_,rfl⟩
 have EV:Hid (rayN wd cs x e=(x2,d2,b2)):=ev
 clear ev hok
 go_enter SqN.func69,Tryz.ntmps69
 go_wp2_with fail
 rw [<- hws,<- hu]
 clear hu hws c1 c2' f2' m0 m1 m2 k0 k1 k2 hb1 hb2 cj fj
 refine (implRayNext_any wd a cap cs _ hC3 (by omega) x e).mono ?_
 rintro r w4 ⟨rfl,hb4⟩
 rw [EV.out]
 unfold rayV
 have hbR:Below w4.heap.size w4 (w4.alloc (.cells #[.int .i64 x2,.int .i64 d2] 103)):=bel
 have hT4:=(hT3.below hb4).below hbR
 have hF4:=(hF3.trans (Fr.of hb4)).trans (Fr.of hbR)
 have hC4:=(hC3.below hb4).below hbR
 have hz4:=hb4.size
 replace g0:=keepc hb4 g0; replace g1:=keepc hb4 g1; replace e0:=keepc hb4 e0; replace e1:=keepc hb4 e1; replace e2:=keepc hb4 e2
 replace g0:=keepc hbR g0; replace g1:=keepc hbR g1; replace e0:=keepc hbR e0; replace e1:=keepc hbR e1; replace e2:=keepc hbR e2
 have y0:(w4.alloc (.cells #[.int .i64 x2,.int .i64 d2] 103)).cell? ⟨w4.heap.size,0,none⟩=some (.int .i64 x2):=by simp [go_sem]
 have y1:(w4.alloc (.cells #[.int .i64 x2,.int .i64 d2] 103)).cell? ⟨w4.heap.size,1,none⟩=some (.int .i64 d2):=by simp [go_sem]
 clear hb4 hbR hT3 hF3 hC3
 cases b2
 ·have hst:StepTo wd cs A E l (x,e,(h:Int)) A (E ++ one3 0 (outOf wd cs x e) h) l:=step_end h0 HOK.out (by rw [EV.out])
  obtain ⟨o,eo⟩:∃ o,outOf wd cs x e=o:=⟨_,rfl⟩
  rw [eo] at hst
  have HO:Hid (outOf wd cs x e=o):=eo
  clear eo
  go_wp2
  obtain ⟨wa,hwa⟩:∃ wa,wa=w4.alloc (.cells #[.int .i64 x2,.int .i64 d2] 103):=⟨_,rfl⟩
  have hza:w4.heap.size<=wa.heap.size:=by rw [hwa]; simp
  rw [<- hwa] at hT4 hF4 hC4 g0 g1 e0 e1 e2 ⊢
  clear hwa y0 y1
  go_region_held3 (fun w'=>w'.cell? ⟨w.heap.size,0,none⟩=some (.int .i64 wd)/\w'.cell? ⟨w.heap.size,1,none⟩=some (.slice a cs.length cap)/\w'.cell? ⟨w.heap.size + 1,0,none⟩=some (.int .i64 x)/\w'.cell? ⟨w.heap.size + 1,1,none⟩=some (.int .i64 e)/\w'.cell? ⟨w.heap.size + 1,2,none⟩=some (.int .i64 (h:Int)))
   (first
    | with_reducible exact ⟨g0,g1,e0,e1,e2⟩
    | with_reducible exact ⟨keepc hbD g0,keepc hbD g1,keepc hbD e0,keepc hbD e1,keepc hbD e2⟩
    | with_reducible exact ⟨hf6.cell fgr (keepc hbD g0),hf6.cell fgr (keepc hbD g1),hf6.cell fbm (keepc hbD e0),hf6.cell fbm (keepc hbD e1),hf6.cell fbm (keepc hbD e2)⟩
    | go_keep)
   (first
    | (go_at_call 109; refine (implOf_any wd a cap cs _ (by first | exact hC4 | exact hC4.below (Below.refl _ _).drew) (by omega) x e).mono ?_; rintro r w5 ⟨rfl,hbD'⟩; have hbD:Below wa.heap.size wa w5:=(by first | exact hbD' | exact bdrew hbD'); have hT5:=hT4.below hbD; have hF5:=hF4.trans (Fr.of hbD); rw [HO.out])
    | (go_at_call 105; refine (endI_any hT5 0 o h h64 (by omega)).mono ?_; rintro r w6 ⟨rfl,v6,hT6,hf6⟩)
    | fail)
  all_goals
   have hF6:=hF5.trans hf6
   clear hf6 hbD hbD'
   go_wp2
   exact bodyPost_ret (v:=.tuple #[]) (by simp [results,Tryz.results69,go_sem]) rfl ⟨rfl,v6,_,_,_,hT6,hF6,hst⟩
 ·obtain ⟨how,en,on,tu,ef⟩:∃ how en on tu,fateN (kd cs x2) h=(how,en,on,tu):=⟨_,_,_,_,rfl⟩
  obtain ⟨hs2,hst⟩:=step_visit (A:=A) (E:=E) S.ok h0 HOK.out (x2:=x2) (by rw [EV.out]) (by rw [EV.out]) ef
  have ed:d2=e:=by
   have q:(rayN wd cs x e).2.2=true:=by rw [EV.out]
   obtain ⟨e2',_⟩:=ray_back EV.out
   exact e2'
  subst ed
  have hkk:=kd_in S.ok hs2.1
  go_wp2_with fail
  refine (visitI_any hT4 a cap hC4 ha x2 d2 hs2 hn hkk h h64 (by omega) ef).mono ?_
  rintro r w6 ⟨rfl,v6,hT6,hf6⟩
  have hF6:=hF4.trans hf6
  clear hf6 y0 y1
  go_wp2_with fail
  exact bodyPost_end (v:=.tuple #[]) (by simp [results,Tryz.results69,go_sem]) rfl ⟨rfl,v6,_,_,_,hT6,hF6,hst⟩
end Sp.Sn
namespace Sp.Sn
open Go.RowKit
attribute [local go_sem ↓] Go.wp_at_zero Go.wp_at_succ
set_option maxRecDepth 20000 in
theorem trailOf_any (wd:Int) (a:Option Addr) (cap:Nat) (cs:List (Int × Int)) (w:World) (h:CellsAt w a cs) (hm:cs.length<=1048576) (k:Int) :
  Calls SqN.prog 41 #[.agg #[.int .i64 wd,.slice a cs.length cap],.int .i64 k] w fun r w'=>∃ a0 c0 a1 c1 a2 n2 c2,r=.returned (.agg #[.slice a0 (trailT wd cs k).1.length c0,.slice a1 (trailT wd cs k).2.length c1,.slice a2 n2 c2]) /\
   w'.ownsRow w.heap.size 108 3 (.slice a0 (trailT wd cs k).1.length c0) (trailT wd cs k).1.length (flat3 (trailT wd cs k).1)/\w'.ownsRow w.heap.size 62 3 (.slice a1 (trailT wd cs k).2.length c1) (trailT wd cs k).2.length (flat3 (trailT wd cs k).2)/\Below w.heap.size w w':=by
 obtain ⟨u,hu⟩:∃ u,u=(((w.alloc (.cells #[.int .i64 wd,.slice a cs.length cap] 25)).alloc (.cells #[.slice none 0 0,.slice none 0 0,.slice none 0 0] 59)).alloc (.cells #[.slice none 0 0,.slice none 0 0,.slice none 0 0] 59)):=⟨_,rfl⟩
 have hbU:Below w.heap.size w u:=by rw [hu]; exact bel
 have zu:w.heap.size + 3<=u.heap.size:=by rw [hu]; simp
 have g0:u.cell? ⟨w.heap.size,0,none⟩=some (.int .i64 wd):=by rw [hu]; simp [go_sem]
 have g1:u.cell? ⟨w.heap.size,1,none⟩=some (.slice a cs.length cap):=by rw [hu]; simp [go_sem]
 have r0:u.cell? ⟨w.heap.size + 1,0,none⟩=some (.slice none 0 0):=by rw [hu]; simp [go_sem]
 have r1:u.cell? ⟨w.heap.size + 1,1,none⟩=some (.slice none 0 0):=by rw [hu]; simp [go_sem]
 have r2:u.cell? ⟨w.heap.size + 1,2,none⟩=some (.slice none 0 0):=by rw [hu]; simp [go_sem]
 have f0:u.frozen? ⟨w.heap.size + 1,0,none⟩=false:=by rw [hu]; simp [go_sem]
 have f1:u.frozen? ⟨w.heap.size + 1,1,none⟩=false:=by rw [hu]; simp [go_sem]
 have f2:u.frozen? ⟨w.heap.size + 1,2,none⟩=false:=by rw [hu]; simp [go_sem]
 have hT0:Tk u w.heap.size (w.heap.size + 2) (fun _=>.slice none 0 0) (rows3 [] [] []):=tk_start u _ _ (by omega) 59 (by
  rw [hu]
  exact heap_last _ _ _ (by simp))
 have hC0:=h.below hbU
 obtain ⟨x,d,b,hr⟩:∃ x d b,inRay wd cs k=(x,d,b):=⟨_,_,_,rfl⟩
 have HR:Hid (inRay wd cs k=(x,d,b)):=hr
 obtain ⟨L,hL⟩:∃ L,trailT wd cs k=L:=⟨_,rfl⟩
 rw [hL]
 have HL:Hid (trailT wd cs k=L):=hL
 clear hr hL
 go_enter SqN.func41,Tryz.ntmps41
 go_wp2_with fail
 rw [<- hu]
 clear hu
 refine (implRay_any wd a cap cs _ hC0 hm k x d b HR.out).mono ?_
 rintro r w1 ⟨rfl,hb1⟩
 have hbR:Below w1.heap.size w1 (w1.alloc (.cells #[.int .i64 x,.int .i64 d] 103)):=bel
 have hz1:=hb1.size
 have hT1:=(hT0.below hb1).below hbR
 have hC1:=(hC0.below hb1).below hbR
 have hB1:=bcall (bcall hbU (by omega) hb1) (by omega) hbR
 replace f0:=keepf hb1 r0 f0; replace f1:=keepf hb1 r1 f1; replace f2:=keepf hb1 r2 f2; replace g0:=keepc hb1 g0; replace g1:=keepc hb1 g1; replace r0:=keepc hb1 r0; replace r1:=keepc hb1 r1; replace r2:=keepc hb1 r2
 replace f0:=keepf hbR r0 f0; replace f1:=keepf hbR r1 f1; replace f2:=keepf hbR r2 f2; replace g0:=keepc hbR g0; replace g1:=keepc hbR g1; replace r0:=keepc hbR r0; replace r1:=keepc hbR r1; replace r2:=keepc hbR r2
 have y0:(w1.alloc (.cells #[.int .i64 x,.int .i64 d] 103)).cell? ⟨w1.heap.size,0,none⟩=some (.int .i64 x):=by simp [go_sem]
 have y1:(w1.alloc (.cells #[.int .i64 x,.int .i64 d] 103)).cell? ⟨w1.heap.size,1,none⟩=some (.int .i64 d):=by simp [go_sem]
 clear hT0 hC0 hb1 hbR hbU
 have nrb:w.heap.size + 2 ≠ w.heap.size + 1:=by omega
 cases b
 ·have eL:L=([],[]):=by
   rw [<- HL.out]
   unfold trailT
   rw [if_neg]
   intro q
   have:inRay wd cs k=(x,d,false):=HR.out
   obtain ⟨x',d',z⟩:=inS_ray' q
   rw [z] at this
   simp at this
  subst eL
  have t0:=hT1.c 0 (by omega)
  have t1:=hT1.c 1 (by omega)
  have t2:=hT1.c 2 (by omega)
  go_wp2
  refine bodyPost_ret (v:=.agg #[.slice none 0 0,.slice none 0 0,.slice none 0 0]) (by simp [results,Tryz.results41,go_sem,r0,r1,r2]) rfl ⟨none,0,none,0,⟨none,0,0,rfl⟩,World.ownsRow_nil _ _ _ _,World.ownsRow_nil _ _ _ _,?_⟩
  exact ((hB1.setCell (p:=⟨w.heap.size + 1,0,none⟩) (by show w.heap.size<=w.heap.size + 1; omega) _).setCell (p:=⟨w.heap.size + 1,1,none⟩) (by show w.heap.size<=w.heap.size + 1; omega) _).setCell (p:=⟨w.heap.size + 1,2,none⟩) (by show w.heap.size<=w.heap.size + 1; omega) _
 ·obtain ⟨⟨hx,hd⟩,hE⟩:=enough_sight HR.out
  have hin:inS wd cs k=true:=inS_of HR.out
  have hokG:=inS_ok hin
  obtain ⟨W,H,S⟩:=siz_of hokG
  have hn:cs.length<=25:=by rw [S.el]; exact Nat.le_trans (Nat.mul_le_mul S.hW.2 S.hH.2) (by omega)
  have hpos:1<=cs.length:=by omega
  have ha:∀ b off,a=some ⟨b,off,none⟩->b < w.heap.size:=by
   intro b off e2
   rcases h with q0 | ⟨b',off',e,hbl,_⟩
   ·rw [q0] at hpos; simp at hpos
   ·rw [e] at e2
    simp only [Option.some.injEq,Addr.mk.injEq] at e2
    omega
  have eL:comeT wd cs 707 x d 64=L:=by
   rw [<- HL.out]
   unfold trailT
   rw [if_pos hin,HR.out]
  have hlen:=len_come wd cs 707 x d 64
  rw [eL] at hlen
  obtain ⟨how,en,on,tu,ef⟩:∃ how en on tu,fateN (kd cs x) 64=(how,en,on,tu):=⟨_,_,_,_,rfl⟩
  have hkk:=kd_in hokG hx
  obtain ⟨vf1,vf2⟩:=visit_fact (T:=([],[])) (st:=[]) ⟨hx,hd⟩ hkk (by omega) (Nat.le_refl 64) hE ef
  have HV:Hid (tapp ([] ++ [(x,d,((64:Nat):Int))],[] ++ one3 how x en) (pend wd cs ([] ++ one3 x (turnD (kd cs x) d) tu ++ one3 x d on))=L):=by
   show _=_
   have q:=vf1
   rw [tapp_end] at q
   rw [<- eL]
   refine Eq.trans q ?_
   simp [pend,tapp]
  have HV2:Hid (∀ c ∈ [] ++ one3 x (turnD (kd cs x) d) tu ++ one3 x d on,okB wd cs c):=fun c hc=>vf2 c hc
  have HLEN:Hid (L.1.length<=707 * 64/\L.2.length<=64):=hlen
  have HEF:Hid (fateN (kd cs x) 64=(how,en,on,tu)):=ef
  clear vf1 vf2 eL hlen hE ef
  go_wp2_with fail
  obtain ⟨wa,hwa⟩:∃ wa,wa=w1.alloc (.cells #[.int .i64 x,.int .i64 d] 103):=⟨_,rfl⟩
  have hza:w.heap.size + 3<=wa.heap.size:=by rw [hwa]; simp; omega
  rw [<- hwa] at hT1 hC1 hB1 g0 g1 r0 r1 r2 f0 f1 f2 ⊢
  clear hwa y0 y1
  have fg:Far (fun _=>Value.slice none 0 0) (w.heap.size + 2) w.heap.size:=⟨by omega,fun j hj=>by simp [Value.ownBlock]⟩
  have fr:Far (fun _=>Value.slice none 0 0) (w.heap.size + 2) (w.heap.size + 1):=⟨by omega,fun j hj=>by simp [Value.ownBlock]⟩
  refine (visitI_any hT1 a cap hC1 ha x d ⟨hx,hd⟩ hn hkk 64 (Nat.le_refl _) (by simp) HEF.out).mono ?_
  rintro r w2 ⟨rfl,v2,hT2,hf2⟩
  replace f0:=hf2.frozen fr r0 f0
  replace f1:=hf2.frozen fr r1 f1
  replace f2:=hf2.frozen fr r2 f2
  replace g0:=hf2.cell fg g0
  replace g1:=hf2.cell fg g1
  replace r0:=hf2.cell fr r0
  replace r1:=hf2.cell fr r1
  replace r2:=hf2.cell fr r2
  replace fg:=hf2.far (by omega) fg
  replace fr:=hf2.far (by omega) fr
  have hB2:=hB1.trans (hf2.below hT1)
  have hC2:=hC1.belowB ha (hf2.below hT1)
  have hz2:=hf2.size
  clear hf2 hT1 hB1 hC1
  have q1:=(one3_len x (turnD (kd cs x) d) tu).1
  have q2:=(one3_len x d on).1
  have hk0:3 * (L.1.length - 1) + ([] ++ one3 x (turnD (kd cs x) d) tu ++ one3 x d on).length<=3 * L.1.length + 2:=by simp only [List.length_append,List.length_nil]; omega
  clear q1 q2
  go_wp2_with fail
  go_loopg [] (3 * (L.1.length - 1) + ([] ++ one3 x (turnD (kd cs x) d) tu ++ one3 x d on).length) (fun gk wr=>∃ v3 A E G,Tk wr w.heap.size (w.heap.size + 2) v3 (rows3 A E G)/\Fr w2 wr (w.heap.size + 2) v2 v3/\tapp (A,E) (pend wd cs G)=L/\(∀ c ∈ G,okB wd cs c)/\gk=3 * (L.1.length - A.length) + G.length/\gk<=3 * L.1.length + 2)
  case atStart=>exact ⟨v2,_,_,_,hT2,Fr.of (Below.refl _ _),HV.out,HV2.out,by simp,hk0⟩
  case round =>
   obtain ⟨v3,A,E,G,hT3,hf3,eL,hok,hgk,hgm⟩:=hrel
   have HE:Hid (tapp (A,E) (pend wd cs G)=L):=eL
   obtain ⟨p1,p2⟩:=pend_le eL
   obtain ⟨z1,z2⟩:=HLEN.out
   have t2:=hT3.c 2 (by omega)
   obtain ⟨a2,c2,ev2,_⟩:=row3_at (es:=G) (show wr.ownsRow w.heap.size 161 3 (v3 2) G.length (flat3 G) from hT3.o 2 (by omega))
   rw [ev2] at t2
   have b0:=hf3.cell fg g0
   have b1:=hf3.cell fg g1
   clear eL
   rcases List.eq_nil_or_concat G with rfl | ⟨l,bm,rfl⟩
   ·have eA:(A,E)=L:=by rw [<- HE.out,pend_nil]
    subst eA
    obtain ⟨a0,c0,ev0,_⟩:=row3_at (es:=A) (show wr.ownsRow w.heap.size 108 3 (v3 0) A.length (flat3 A) from hT3.o 0 (by omega))
    obtain ⟨a1,c1,ev1,_⟩:=row3_at (es:=E) (show wr.ownsRow w.heap.size 62 3 (v3 1) E.length (flat3 E) from hT3.o 1 (by omega))
    have o0:wr.ownsRow w.heap.size 108 3 (v3 0) A.length (flat3 A):=hT3.o 0 (by omega)
    have o1:wr.ownsRow w.heap.size 62 3 (v3 1) E.length (flat3 E):=hT3.o 1 (by omega)
    have t0:=hT3.c 0 (by omega)
    have t1:=hT3.c 1 (by omega)
    have n0:=(hf3.far (by omega) fr).2 0 (by omega)
    have n1:=(hf3.far (by omega) fr).2 1 (by omega)
    rw [ev0] at t0 o0 n0
    rw [ev1] at t1 o1 n1
    have s0:=hf3.cell fr r0
    have s1:=hf3.cell fr r1
    have s2:=hf3.cell fr r2
    have x0:=hf3.frozen fr r0 f0
    have x1:=hf3.frozen fr r1 f1
    have x2:=hf3.frozen fr r2 f2
    have hB3:=hB2.trans (hf3.below hT2)
    clear hf3 hT3 HE hok ev0 ev1 ev2
    simp only [List.length_nil] at t2
    go_wp2
    refine bodyPost_ret (v:=.agg #[.slice a0 A.length c0,.slice a1 E.length c1,.slice a2 0 c2]) (by simp [results,Tryz.results41,go_sem,s0,s1,s2]) rfl ⟨a0,c0,a1,c1,⟨a2,0,c2,rfl⟩,?_,?_,?_⟩
    ·exact ownsRow_setCell_other (ownsRow_setCell_other (ownsRow_setCell_other o0 (a:=⟨w.heap.size + 1,0,none⟩) n0 _) (a:=⟨w.heap.size + 1,1,none⟩) n0 _) (a:=⟨w.heap.size + 1,2,none⟩) n0 _
    ·exact ownsRow_setCell_other (ownsRow_setCell_other (ownsRow_setCell_other o1 (a:=⟨w.heap.size + 1,0,none⟩) n1 _) (a:=⟨w.heap.size + 1,1,none⟩) n1 _) (a:=⟨w.heap.size + 1,2,none⟩) n1 _
    ·exact ((hB3.setCell (p:=⟨w.heap.size + 1,0,none⟩) (by show w.heap.size<=w.heap.size + 1; omega) _).setCell (p:=⟨w.heap.size + 1,1,none⟩) (by show w.heap.size<=w.heap.size + 1; omega) _).setCell (p:=⟨w.heap.size + 1,2,none⟩) (by show w.heap.size<=w.heap.size + 1; omega) _
   ·simp only [List.concat_eq_append] at hT3 hok hgk t2 HE
    obtain ⟨bx,be,bh⟩:=bm
    have hbk:=(hok (bx,be,bh) (by simp)).2.1
    simp only at hbk
    obtain ⟨hh,rfl⟩:=Int.eq_ofNat_of_zero_le (show 0<=bh by omega)
    have hC3:=hC2.belowB ha (hf3.below hT2)
    have gl:(l ++ [(bx,be,(hh:Int))]).length=l.length + 1:=by simp
    rw [gl] at t2 hgk
    have hl1:A.length<=900000/\E.length<=900000/\l.length<=800000:=by omega
    have hpl:(0:Int) < (l.length:Int) + 1:=by omega
    go_wp2_with fail
    refine (followI_any S hT3 a cap hC3 ha hok hl1).mono ?_
    rintro r w4 ⟨rfl,v4,A',E',G',hT4,hf4,st1,st2,st3⟩
    have hf5:=hf3.trans hf4
    have e4:tapp (A',E') (pend wd cs G')=L:=by rw [st1]; exact HE.out
    obtain ⟨p3,p4⟩:=pend_le e4
    have hlt:3 * (L.1.length - A'.length) + G'.length < gk:=by
     rcases st3 with ⟨q1,q2⟩ | ⟨q1,q2⟩
     ·rw [q1,q2]; omega
     ·omega
    clear hT3 hf3 hf4 st1 st3 HE t2 b0 b1 hC3 hok
    go_wp2_with fail
    go_roundg (3 * (L.1.length - A'.length) + G'.length)
    case measure=>exact hlt
    case rel=>exact ⟨v4,A',E',G',hT4,hf5,e4,st2,rfl,by omega⟩
end Sp.Sn
namespace Sp.Sn
open Go.RowKit
attribute [local go_sem ↓] Go.wp_at_zero Go.wp_at_succ
theorem fieldTr1 (a0 a1 a2:Option Addr) (n0 c0 n1 c1 n2 c2:Nat) (w:World):Sem.run SqN.prog (Instr.field 59 (.agg #[.slice a0 n0 c0,.slice a1 n1 c1,.slice a2 n2 c2]) 1) w=.ok (.slice a1 n1 c1) w:=by kernel_rfl
end Sp.Sn
namespace Sp.Sn
open Go.RowKit
attribute [local go_sem ↓] Go.wp_at_zero Go.wp_at_succ
set_option maxRecDepth 20000 in
theorem implLight_any (wd:Int) (a:Option Addr) (cap:Nat) (cs:List (Int × Int)) (w:World) (h:CellsAt w a cs) (hm:cs.length<=1048576) (k:Int) :
  Calls SqN.prog 15 #[.agg #[.int .i64 wd,.slice a cs.length cap],.int .i64 k] w fun e w'=>e=.returned (.int .i64 (lightN wd cs k))/\Below w.heap.size w w':=by
 obtain ⟨L,hL⟩:∃ L,trailT wd cs k=L:=⟨_,rfl⟩
 obtain ⟨hE,hQ,hsum,hlen,hok⟩:=ends_known hL
 obtain ⟨es,hes⟩:∃ es,L.2=es:=⟨_,rfl⟩
 rw [hes] at hE hQ hsum hlen hok
 have hpos:∀ u ∈ es,1<=u.2.2:=fun u hu=>(hE u hu).1
 obtain ⟨R,hR⟩:∃ R,lightN wd cs k=R:=⟨_,rfl⟩
 rw [hR]
 have ER:Hid (sumL cs es=R):=by show _=_; rw [<- hR]; unfold lightN; rw [hL,hes]
 have HL:Hid (trailT wd cs k=L):=hL
 have HES:Hid (L.2=es):=hes
 have HB:Hid (∀ i,0<=sumL cs (es.take i)/\sumL cs (es.take i)<=576):=by
  intro i
  have q1:=sumL_in cs (es.take i) (fun u hu=>lamp_of (hok (fun z=>by rw [z] at hu; simp at hu)) (hE u (List.mem_of_mem_take hu)))
  have q2:=sum_take hpos i
  omega
 have HE:Hid (∀ u ∈ es,EndOk wd cs u):=hE
 have HQ:Hid (∀ u ∈ es,u.2.2<=64):=hQ
 have HOK:Hid (es ≠ []->okG wd cs=true):=hok
 have hbX:Below w.heap.size w (w.alloc (.cells #[.int .i64 wd,.slice a cs.length cap] 25)):=bel
 have g1:(w.alloc (.cells #[.int .i64 wd,.slice a cs.length cap] 25)).cell? ⟨w.heap.size,1,none⟩=some (.slice a cs.length cap):=by simp [go_sem]
 have hC:=h.below hbX
 clear hL hes hR hE hQ hpos hok
 go_enter SqN.func15,Tryz.ntmps15
 go_wp2_with fail
 refine (trailOf_any wd a cap cs _ hC hm k).mono ?_
 rw [HL.out,HES.out]
 rintro r x1 ⟨a0,c0,a1,c1,a2,n2,c2,rfl,o0,o1,hb1⟩
 have hfld:=fieldTr1 a0 a1 a2 L.1.length c0 es.length c1 n2 c2
 have hB1:=bcall hbX (by simp) hb1
 replace g1:=keepc hb1 g1
 have hC1:=hC.below hb1
 obtain ⟨aX,cX,eX,hR3⟩:=row3_at o1
 simp only [Value.slice.injEq,true_and] at eX
 obtain ⟨rfl,rfl⟩:=eX
 clear hb1 o0 o1 hC hbX
 go_wp2_with fail
 go_loopw [5,13] (fun nn ii wr=>∃ i:Nat,i<=es.length/\ii=.int .i64 i/\nn=.int .i64 (sumL cs (es.take i))/\Below x1.heap.size x1 wr) (fun _ ii _=>es.length - (intOf ii).toNat)
 case atStart=>exact ⟨0,Nat.zero_le _,rfl,rfl,Below.refl _ _⟩
 case round =>
  rename World=>wo
  obtain ⟨i,hi,rfl,rfl,hb⟩:=hrel
  replace hR3:=hR3.below hb
  replace hC1:=hC1.below hb
  replace g1:=keepc hb g1
  obtain ⟨s,es0⟩:∃ s,sumL cs (es.take i)=s:=⟨_,rfl⟩
  have hsb:=HB.out i
  rw [es0] at hsb ⊢
  by_cases hlt:i < es.length
  ·rcases hR3 with q | ⟨b,off,rfl,hbl,hc⟩
   ·rw [q] at hlt; simp at hlt
   obtain ⟨t,et⟩:∃ t,es.getD i (0,0,0)=t:=⟨_,rfl⟩
   have hmem:t ∈ es:=by rw [<- et]; simp [List.getElem?_eq_getElem hlt]
   obtain ⟨z0,z1,z2⟩:=hc i hlt
   rw [et] at z0 z1 z2
   obtain ⟨hw1,hlm⟩:=lamp_of (HOK.out (fun z=>by rw [z] at hmem; simp at hmem)) (HE.out t hmem)
   have hw2:=HQ.out t hmem
   have hst:sumL cs (es.take (i + 1))=s + (if t.1=2 then t.2.2 * ltC cs t.2.1 else 0):=by
    rw [take_one es i (0,0,0) hlt,sumL_append,es0,et]
    simp [sumL]
   obtain ⟨t0,t1,t2⟩:=t
   simp only at z0 z1 z2 hw1 hw2 hst hlm
   have hbY:Below wo.heap.size wo (wo.alloc (.cells #[.int .i64 t0,.int .i64 t1,.int .i64 t2] 62)):=bel
   have hbE:Below x1.heap.size x1 (wo.alloc (.cells #[.int .i64 t0,.int .i64 t1,.int .i64 t2] 62)):=hb.alloc hb.size _
   clear hmem et hc
   by_cases e0:t0=2
   ·rw [if_pos e0] at hst
    obtain ⟨hx,hl1,hl2⟩:=hlm e0
    obtain ⟨Y,rfl⟩:=Int.eq_ofNat_of_zero_le hx.1
    have hY:Y < cs.length:=by omega
    obtain ⟨lt',elt⟩:∃ l,ltC cs (Y:Int)=l:=⟨_,rfl⟩
    rw [elt] at hst hl1 hl2
    rcases hC1 with q | ⟨bc,oc,rfl,hbc,hcc⟩
    ·rw [q] at hY; simp at hY
    have zc:=(hcc Y hY).2
    have zc':wo.cell? ⟨bc,oc + Y * 2 + 1,none⟩=some (.int .i64 lt'):=by
     rw [zc,<- elt]; simp [ltC]
    obtain ⟨p,ep⟩:∃ p,t2 * lt'=p:=⟨_,rfl⟩
    rw [ep] at hst
    have hp0:0<=p:=by rw [<- ep]; exact Int.mul_nonneg (by omega) (by omega)
    have hp1:p<=576:=by
     rw [<- ep]
     exact Int.le_trans (Int.mul_le_mul hw2 hl2 (by omega) (by omega)) (by omega)
    have wp:IntKind.i64.wrap (t2 * lt')=p:=by rw [ep]; exact IntWalk.i64_in _ (by omega)
    have ws:IntKind.i64.wrap (s + p)=s + p:=IntWalk.i64_in _ (by omega)
    have HST:Hid (sumL cs (es.take (i + 1))=s + p):=hst
    have b0:(t0 == 2)=true:=by simp [e0]
    have hYl:(Y:Int) < (cs.length:Int):=by omega
    clear hst e0 es0 zc ep elt hcc hlm
    go_wp2_with fail
    obtain ⟨we,hwe⟩:∃ we,we=wo.alloc (.cells #[.int .i64 t0,.int .i64 (Y:Int),.int .i64 t2] 62):=⟨_,rfl⟩
    have y0:we.cell? ⟨wo.heap.size,0,none⟩=some (.int .i64 t0):=by rw [hwe]; simp [go_sem]
    have y1:we.cell? ⟨wo.heap.size,1,none⟩=some (.int .i64 (Y:Int)):=by rw [hwe]; simp [go_sem]
    have y2:we.cell? ⟨wo.heap.size,2,none⟩=some (.int .i64 t2):=by rw [hwe]; simp [go_sem]
    rw [<- hwe] at hbY hbE ⊢
    replace g1:=keepc hbY g1; replace zc':=keepc hbY zc'
    clear hwe z0 z1 z2
    go_quiet (fail)
    have hbq:Below x1.heap.size x1 (we.drewN nq):=⟨hbE.os,hbE.tape,hbE.output,hbE.size,hbE.block⟩
    go_wp2_with fail
    go_roundw
    case rel=>exact ⟨i + 1,by omega,by go_num,by rw [HST.out],hbq⟩
    case measure=>simp [intOf]; omega
   ·rw [if_neg e0] at hst
    have HST:Hid (sumL cs (es.take (i + 1))=s):=by show _=_; rw [hst]; omega
    have b0:(t0 == 2)=false:=by simp [e0]
    clear hst e0 es0 hlm
    go_wp2_with fail
    go_roundw
    case rel=>exact ⟨i + 1,by omega,by go_num,by rw [HST.out],hbE⟩
    case measure=>simp [intOf]; omega
  ·have hfin:s=R:=by rw [<- es0,<- ER.out,List.take_of_length_le (by omega)]
   subst hfin
   clear es0
   go_wp2_with fail
   go_ret
   exact ⟨rfl,bcall hB1 hB1.size hb⟩
end Sp.Sn
namespace Sp.Sn
open Go.RowKit
attribute [local go_sem ↓] Go.wp_at_zero Go.wp_at_succ
end Sp.Sn
end Go.Proofs.YtdhopelplokehaaGreat
