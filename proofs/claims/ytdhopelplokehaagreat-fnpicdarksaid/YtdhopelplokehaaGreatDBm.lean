/- Of the proof: PDw, PWr -/
import Derived.Test.YtdhopelplokehaaGreatDBj
set_option maxHeartbeats 4000000
set_option linter.unusedVariables false
namespace Go.Proofs.YtdhopelplokehaaGreat
namespace Sp
open Go.RowKit
attribute [local go_sem ↓] Go.wp_at_zero Go.wp_at_succ
structure DB (w wr:World) (rb L gb:Nat) (wd:Int) (a:Option Addr) (c:Nat) (xs:List (Int × Int)) (P:Nat):Prop where
 gr:w.grownBy wr (some rb)
 p0:wr.cell? ⟨w.heap.size,0,none⟩=some (.int .i64 0)
 p1:wr.cell? ⟨w.heap.size,1,none⟩=some (.slice none 0 0)
 fp0:wr.frozen? ⟨w.heap.size,0,none⟩=false
 fp1:wr.frozen? ⟨w.heap.size,1,none⟩=false
 g0:wr.cell? ⟨gb,0,none⟩=some (.int .i64 wd)
 g1:wr.cell? ⟨gb,1,none⟩=some (.slice a xs.length c)
 sz:w.heap.size < gb/\gb < wr.heap.size
 rbw:rb < w.heap.size/\L<=w.heap.size
 rd:RdQ wr rb L P
 cells:CellsAt wr a xs
 unf:UnF wr a xs
 new:∀ b off,a=some ⟨b,off,none⟩->xs ≠ []->w.heap.size < b/\b ≠ gb
theorem DB.more {w wr:World} {rb L gb:Nat} {wd:Int} {a:Option Addr} {c:Nat} {xs:List (Int × Int)} {P P':Nat} (h:DB w wr rb L gb wd a c xs P) (hp:P<=P'):DB w wr rb L gb wd a c xs P' :=
 ⟨h.gr,h.p0,h.p1,h.fp0,h.fp1,h.g0,h.g1,h.sz,h.rbw,h.rd.more hp,h.cells,h.unf,h.new⟩
theorem DB.call {w wr w2:World} {rb L gb:Nat} {wd:Int} {a:Option Addr} {c:Nat} {xs:List (Int × Int)} {P P':Nat} (h:DB w wr rb L gb wd a c xs P) (hg:wr.grownBy w2 (some rb)) (hr:RdQ w2 rb L P'):DB w w2 rb L gb wd a c xs P':=by
 obtain ⟨s1,s2⟩:=h.sz
 obtain ⟨r1,r2⟩:=h.rbw
 have hz:=hg.size
 have n1:w.heap.size ≠ rb:=by omega
 have n2:gb ≠ rb:=by omega
 refine ⟨⟨hg.os.trans h.gr.os,hg.tape.trans h.gr.tape,hg.output.trans h.gr.output,Nat.le_trans h.gr.size hg.size,fun k hk hne=>(hg.block k (by have:=h.gr.size; omega) hne).trans (h.gr.block k hk hne)⟩,
  gcell hg n1 h.p0,gcell hg n1 h.p1,gfroz hg n1 h.p0 h.fp0,gfroz hg n1 h.p1 h.fp1,gcell hg n2 h.g0,gcell hg n2 h.g1,by omega,h.rbw,hr,?_,?_,h.new⟩
 ·by_cases hx:xs=[]
  ·exact Or.inl hx
  ·exact h.cells.grown hg (fun b off e=>by have:=h.new b off e hx; omega)
 ·by_cases hx:xs=[]
  ·intro b off e i hi; rw [hx] at hi; simp at hi
  ·exact h.unf.grown h.cells hg (fun b off e=>by have:=h.new b off e hx; omega)
theorem DB.below {w wr w2:World} {rb L gb:Nat} {wd:Int} {a:Option Addr} {c:Nat} {xs:List (Int × Int)} {P:Nat} (h:DB w wr rb L gb wd a c xs P) (hb:Below wr.heap.size wr w2):DB w w2 rb L gb wd a c xs P:=by
 obtain ⟨s1,s2⟩:=h.sz
 have hz:=hb.size
 have hw:=h.gr.size
 exact ⟨picksB h.gr hb,keepc hb h.p0,keepc hb h.p1,keepf hb h.p0 h.fp0,keepf hb h.p1 h.fp1,keepc hb h.g0,keepc hb h.g1,by omega,h.rbw,h.rd.below (hb.mono (by have:=h.rbw; omega)),h.cells.below hb,h.unf.below h.cells hb,h.new⟩
theorem DB.put {w wr:World} {rb L gb:Nat} {wd:Int} {b off:Nat} {c:Nat} {xs:List (Int × Int)} {P:Nat} (h:DB w wr rb L gb wd (some ⟨b,off,none⟩) c xs P) (i:Nat) (hi:i < xs.length) (k l:Int) :
  DB w ((wr.setCell ⟨b,off + i * 2,none⟩ (.int .i64 k)).setCell ⟨b,off + i * 2 + 1,none⟩ (.int .i64 l)) rb L gb wd (some ⟨b,off,none⟩) c (xs.set i (k,l)) P:=by
 have hx:xs ≠ []:=by intro q; rw [q] at hi; simp at hi
 obtain ⟨n1,n2⟩:=h.new b off rfl hx
 obtain ⟨s1,s2⟩:=h.sz
 obtain ⟨r1,r2⟩:=h.rbw
 have hlen:(xs.set i (k,l)).length=xs.length:=by simp
 have m1:w.heap.size ≠ b:=by omega
 have m2:gb ≠ b:=fun e=>n2 e.symm
 have hb2:Below L wr ((wr.setCell ⟨b,off + i * 2,none⟩ (.int .i64 k)).setCell ⟨b,off + i * 2 + 1,none⟩ (.int .i64 l)) :=
  ((Below.refl _ _).setCell (p:=⟨b,off + i * 2,none⟩) (by show L<=b; omega) _).setCell (p:=⟨b,off + i * 2 + 1,none⟩) (by show L<=b; omega) _
 refine ⟨gset (gset h.gr (p:=⟨b,off + i * 2,none⟩) (by show w.heap.size<=b; omega) _) (p:=⟨b,off + i * 2 + 1,none⟩) (by show w.heap.size<=b; omega) _,setc m1 (setc m1 h.p0),setc m1 (setc m1 h.p1),setf m1 (setf m1 h.fp0),setf m1 (setf m1 h.fp1),setc m2 (setc m2 h.g0),?_,by simpa using h.sz,h.rbw,h.rd.below hb2,?_,?_,fun b' off' e _=>h.new b' off' e hx⟩
 ·rw [hlen]
  exact setc m2 (setc m2 h.g1)
 ·rcases h.cells with q | ⟨b',off',e,hbl,hc⟩
  ·rw [q] at hi; simp at hi
  ·simp only [Option.some.injEq,Addr.mk.injEq,and_true] at e
   obtain ⟨rfl,rfl⟩:=e
   refine Or.inr ⟨b,off,rfl,by simpa using hbl,fun j hj=>?_⟩
   rw [hlen] at hj
   by_cases e:j=i
   ·subst e
    have g:(xs.set j (k,l)).getD j (0,0)=(k,l):=by simp [hj]
    rw [g]
    refine ⟨?_,?_⟩
    ·exact setO (by omega) (World.cell?_setCell_same _ _ _ (by rw [(hc j hj).1]))
    ·exact World.cell?_setCell_same _ _ _ (by rw [setO (show off + j * 2 + 1 ≠ off + j * 2 by omega) (hc j hj).2])
   ·have g:(xs.set i (k,l)).getD j (0,0)=xs.getD j (0,0):=by simp [Ne.symm e]
    rw [g]
    exact ⟨setO (by omega) (setO (by omega) (hc j hj).1),setO (by omega) (setO (by omega) (hc j hj).2)⟩
 ·intro b' off' e j hj
  rw [hlen] at hj
  exact h.unf.set.set b' off' e j hj
theorem DB.at {w wr:World} {rb L gb:Nat} {wd:Int} {a:Option Addr} {c:Nat} {xs:List (Int × Int)} {P:Nat} (h:DB w wr rb L gb wd a c xs P) (i:Nat) (hi:i < xs.length) :
  ∃ b off,a=some ⟨b,off,none⟩/\(∃ u,wr.cell? ⟨b,off + i * 2,none⟩=some (.int .i64 u))/\(∃ u,wr.cell? ⟨b,off + i * 2 + 1,none⟩=some (.int .i64 u))/\wr.frozen? ⟨b,off + i * 2,none⟩=false/\wr.frozen? ⟨b,off + i * 2 + 1,none⟩=false:=by
 rcases h.cells with q | ⟨b,off,e,hbl,hc⟩
 ·rw [q] at hi; simp at hi
 ·obtain ⟨f1,f2⟩:=h.unf b off e i hi
  exact ⟨b,off,e,⟨_,(hc i hi).1⟩,⟨_,(hc i hi).2⟩,f1,f2⟩
def litK (j:Nat):Int:=if j=0 then 2 else if j=1 then 3 else if j=2 then 4 else 5
theorem lit_at (w:World) (j:Nat) (hj:j < 4):(w.alloc (.cells #[.int .i64 2,.int .i64 3,.int .i64 4,.int .i64 5] 3)).cell? ⟨w.heap.size,j,none⟩=some (.int .i64 (litK j)):=by
 rcases j with _ | _ | _ | _ | j
 ·simp [go_sem,litK]
 ·simp [go_sem,litK]
 ·simp [go_sem,litK]
 ·simp [go_sem,litK]
 ·omega
set_option maxRecDepth 20000 in
theorem l71Bright_any (w:World) (rb L P:Nat) (h:RdQ w rb L P) (hp:P<=700000) (hL:L<=w.heap.size) :
  Calls SqP.prog 37 #[.pointer (some ⟨rb,0,none⟩)] w fun e w'=>∃ (wd:Int) (a:Option Addr) (c:Nat) (xs:List (Int × Int)),e=.returned (.agg #[.int .i64 wd,.slice a xs.length c])/\CellsAt w' a xs/\(∀ b off,a=some ⟨b,off,none⟩->xs ≠ []->w.heap.size<=b)/\xs.length<=31/\RdQ w' rb L (P + 100)/\w.grownBy w' (some rb):=by
 obtain ⟨hrl,hrw⟩:=h.lt
 have hbR:Below w.heap.size w (w.alloc (.cells #[.int .i64 0,.slice none 0 0] 25)):=bel
 have h0:=h.below (hbR.mono hL)
 go_enter SqP.func37,Tryz.ntmps37
 go_wp2_with fail
 refine (l71SomeX_any _ rb L P h0 (by omega) (by simp; omega)).mono ?_
 rintro e w2 ⟨wd,a2,c2,xs,rfl,hok2,hxl,hr2,hg2⟩
 have hz2:=hg2.size
 simp at hz2
 have nr:w.heap.size ≠ rb:=by omega
 have p0:w2.cell? ⟨w.heap.size,0,none⟩=some (.int .i64 0):=gcell hg2 nr (by simp [go_sem])
 have p1:w2.cell? ⟨w.heap.size,1,none⟩=some (.slice none 0 0):=gcell hg2 nr (by simp [go_sem])
 have fp0:w2.frozen? ⟨w.heap.size,0,none⟩=false:=gfroz hg2 nr (v:=.int .i64 0) (by simp [go_sem]) (by simp [go_sem])
 have fp1:w2.frozen? ⟨w.heap.size,1,none⟩=false:=gfroz hg2 nr (v:=.slice none 0 0) (by simp [go_sem]) (by simp [go_sem])
 have hgw:w.grownBy w2 (some rb):=⟨hg2.os.trans hbR.os,hg2.tape.trans hbR.tape,hg2.output.trans hbR.output,by omega,fun k hk hne=>(hg2.block k (by simp; omega) hne).trans (hbR.block k hk)⟩
 have hC2:=hok2.cells
 have hU2:=hok2.unf
 have hn2:∀ b off,a2=some ⟨b,off,none⟩->w.heap.size + 1<=b:=fun b off e=>by have:=hok2.new b off e; simpa using this
 clear hok2 hg2 h0 hbR
 have hbG:Below w2.heap.size w2 (w2.alloc (.cells #[.int .i64 wd,.slice a2 xs.length c2] 25)):=bel
 have hD:DB w (w2.alloc (.cells #[.int .i64 wd,.slice a2 xs.length c2] 25)) rb L w2.heap.size wd a2 c2 xs (P + 70):=by
  refine ⟨picksB hgw hbG,keepc hbG p0,keepc hbG p1,keepf hbG p0 fp0,keepf hbG p1 fp1,by simp [go_sem],by simp [go_sem],by simp; omega,⟨hrw,hL⟩,hr2.below (hbG.mono (by omega)),hC2.below hbG,hU2.below hC2 hbG,fun b off e hx=>⟨by have:=hn2 b off e; omega,?_⟩⟩
  rcases hC2 with q | ⟨b',off',e',hbl,_⟩
  ·exact absurd q hx
  ·rw [e] at e'
   simp only [Option.some.injEq,Addr.mk.injEq,and_true] at e'
   omega
 clear hbG hC2 hn2 hU2 hr2 fp0 fp1 p0 p1 hgw
 go_wp2_with fail
 obtain ⟨wz,hwz⟩:∃ wz,wz=w2.alloc (.cells #[.int .i64 wd,.slice a2 xs.length c2] 25):=⟨_,rfl⟩
 rw [<- hwz] at hD ⊢
 clear hwz
 refine (pickQ 8 _ rb L (P + 70) hD.rd (by omega) (by omega)).mono ?_
 rintro e w3 ⟨v3,rfl,hv1,hv2,hr3,hg3⟩
 have hD3:=(hD.call hg3 hr3).more (P':=P + 100 - 2 * v3.toNat) (by omega)
 obtain ⟨M,rfl⟩:=Int.eq_ofNat_of_zero_le hv1
 simp only [Int.toNat_natCast] at hD3
 obtain ⟨gb,egb⟩:∃ gb,w2.heap.size=gb:=⟨_,rfl⟩
 rw [egb] at hD3 ⊢
 clear hD hg3 hr3 hv1 egb
 go_wp2_with fail
 go_loopw [4] (fun nn wr=>∃ (m:Nat) (ys:List (Int × Int)),m<=8/\nn=.int .i64 m/\ys.length=xs.length/\DB w wr rb L gb wd a2 c2 ys (P + 100 - 2 * m)) (fun nn _=>(intOf nn).toNat)
 case atStart=>exact ⟨M,xs,by omega,rfl,rfl,hD3⟩
 case round =>
  rename World=>wo
  obtain ⟨m,ys,hm,rfl,hyl,hDo⟩:=hrel
  have g1:=hDo.g1
  rw [hyl] at g1
  by_cases hgo:0 < m/\0 < xs.length
  ·obtain ⟨hm0,hx0⟩:=hgo
   have b0:decide ((0:Int) < (m:Int))=true:=decide_eq_true (by omega)
   have b1:decide ((0:Int) < (xs.length:Int))=true:=decide_eq_true (by omega)
   have i0:(0:Int) < (m:Int):=by omega
   have i1:(0:Int) < (xs.length:Int):=by omega
   have hbL:Below wo.heap.size wo (wo.alloc (.cells #[.int .i64 2,.int .i64 3,.int .i64 4,.int .i64 5] 3)):=bel
   have hDL:=hDo.below hbL
   have la:=lit_at wo
   have rbo:wo.heap.size ≠ rb:=by have:=hDo.gr.size; omega
   go_wp2
   have gqL:(wo.alloc (.cells #[.int .i64 2,.int .i64 3,.int .i64 4,.int .i64 5] 3)).cell? ⟨gb,1,none⟩=some (.slice a2 xs.length c2):=keepc hbL g1
   first
   | (go_region_with
    (first
     | (have hguard:=lb5; go_at_call 59; refine (pickQ 4 _ rb L (P + 100 - 2 * m + 1) (by first | exact hD5.rd | exact hD5.rd.below (Below.refl _ _).drew) (by omega) (by omega)).mono ?_; rintro e w6 ⟨u6,rfl,hu3,hu4,hr6,hg6'⟩; have hg6:w5.grownBy w6 (some rb):=(by first | exact hg6' | exact gdrew hg6'); have hD6:=hD5.call hg6 hr6; obtain ⟨V,rfl⟩:=Int.eq_ofNat_of_zero_le hu3; have lk:w6.cell? ⟨wo.heap.size,V,none⟩=some (.int .i64 (litK V)):=gcell hg6 rbo (lb5 V (by omega)); have gq6:w6.cell? ⟨gb,1,none⟩=some (.slice a2 xs.length c2):=hD6.g1.trans (by rw [hyl]); have hvi:(V:Int) < 4:=(by omega); have hui:(U:Int) < (xs.length:Int):=(by omega); obtain ⟨b,off,rfl,⟨k1,c1'⟩,⟨k2,c2'⟩,f1,f2⟩:=hD6.at U (by omega); have hDF:=(hD6.put U (by omega) (litK V) 0).more (P':=P + 100 - 2 * (m - 1)) (by omega); have hl6:(ys.set U (litK V,0)).length=xs.length:=(by rw [List.length_set]; exact hyl))
     | (have hguard:=hD5L; go_at_call 59; refine (pickQ 4 _ rb L (P + 100 - 2 * m + 1) (by first | exact hD5L.rd | exact hD5L.rd.below (Below.refl _ _).drew) (by omega) (by omega)).mono ?_; rintro e w6 ⟨u6,rfl,hu3,hu4,hr6,hg6'⟩; have hg6:(w5.alloc (.cells #[.int .i64 2,.int .i64 3,.int .i64 4,.int .i64 5] 3)).grownBy w6 (some rb):=(by first | exact hg6' | exact gdrew hg6'); have hD6:=hD5L.call hg6 hr6; obtain ⟨V,rfl⟩:=Int.eq_ofNat_of_zero_le hu3; have lk:w6.cell? ⟨w5.heap.size,V,none⟩=some (.int .i64 (litK V)):=gcell hg6 rb5 (lit_at w5 V (by omega)); have gq6:w6.cell? ⟨gb,1,none⟩=some (.slice a2 xs.length c2):=hD6.g1.trans (by rw [hyl]); have hvi:(V:Int) < 4:=(by omega); have hui:(U:Int) < (xs.length:Int):=(by omega); obtain ⟨b,off,rfl,⟨k1,c1'⟩,⟨k2,c2'⟩,f1,f2⟩:=hD6.at U (by omega); have hDF:=(hD6.put U (by omega) (litK V) 0).more (P':=P + 100 - 2 * (m - 1)) (by omega); have hl6:(ys.set U (litK V,0)).length=xs.length:=(by rw [List.length_set]; exact hyl))
     | (have hguard:=hD5L; go_at_call 59; refine (pickQ 4 _ rb L (P + 100 - 2 * m + 1) (by first | exact hD5.rd | exact hD5.rd.below (Below.refl _ _).drew) (by omega) (by omega)).mono ?_; rintro e w6 ⟨u6,rfl,hu3,hu4,hr6,hg6'⟩; have hg6:w5.grownBy w6 (some rb):=(by first | exact hg6' | exact gdrew hg6'); have hD6:=hD5.call hg6 hr6; obtain ⟨V,rfl⟩:=Int.eq_ofNat_of_zero_le hu3; have hD6L:=hD6.below ((Below.refl _ _).alloc (Nat.le_refl _) (.cells #[.int .i64 2,.int .i64 3,.int .i64 4,.int .i64 5] 3)); have lk:(w6.alloc (.cells #[.int .i64 2,.int .i64 3,.int .i64 4,.int .i64 5] 3)).cell? ⟨w6.heap.size,V,none⟩=some (.int .i64 (litK V)):=lit_at w6 V (by omega); have gq6:w6.cell? ⟨gb,1,none⟩=some (.slice a2 xs.length c2):=hD6.g1.trans (by rw [hyl]); have gq6L:(w6.alloc (.cells #[.int .i64 2,.int .i64 3,.int .i64 4,.int .i64 5] 3)).cell? ⟨gb,1,none⟩=some (.slice a2 xs.length c2):=hD6L.g1.trans (by rw [hyl]); have hvi:(V:Int) < 4:=(by omega); have hui:(U:Int) < (xs.length:Int):=(by omega); obtain ⟨b,off,rfl,⟨k1,c1'⟩,⟨k2,c2'⟩,f1,f2⟩:=hD6L.at U (by omega); have hDFL:=(hD6L.put U (by omega) (litK V) 0).more (P':=P + 100 - 2 * (m - 1)) (by omega); have hl6:(ys.set U (litK V,0)).length=xs.length:=(by rw [List.length_set]; exact hyl))
     | (go_at_call 59; refine (pickQ (xs.length:Int) _ rb L (P + 100 - 2 * m) (by first | exact hDo.rd | exact hDo.rd.below (Below.refl _ _).drew) (by omega) (by omega)).mono ?_; rintro e w5 ⟨u5,rfl,hu1,hu2,hr5,hg5'⟩; have hg5:wo.grownBy w5 (some rb):=(by first | exact hg5' | exact gdrew hg5'); have hD5:=hDo.call hg5 hr5; have hD5L:=hD5.below ((Below.refl _ _).alloc (Nat.le_refl _) (.cells #[.int .i64 2,.int .i64 3,.int .i64 4,.int .i64 5] 3)); have gq5:w5.cell? ⟨gb,1,none⟩=some (.slice a2 xs.length c2):=hD5.g1.trans (by rw [hyl]); have gq5L:(w5.alloc (.cells #[.int .i64 2,.int .i64 3,.int .i64 4,.int .i64 5] 3)).cell? ⟨gb,1,none⟩=some (.slice a2 xs.length c2):=hD5L.g1.trans (by rw [hyl]); have rb5:w5.heap.size ≠ rb:=(by have:=hD5.gr.size; omega); obtain ⟨U,rfl⟩:=Int.eq_ofNat_of_zero_le hu1)
     | (go_at_call 59; refine (pickQ (xs.length:Int) _ rb L (P + 100 - 2 * m) (by first | exact hDL.rd | exact hDL.rd.below (Below.refl _ _).drew) (by omega) (by omega)).mono ?_; rintro e w5 ⟨u5,rfl,hu1,hu2,hr5,hg5'⟩; have hg5:(wo.alloc (.cells #[.int .i64 2,.int .i64 3,.int .i64 4,.int .i64 5] 3)).grownBy w5 (some rb):=(by first | exact hg5' | exact gdrew hg5'); have hD5:=hDL.call hg5 hr5; have gq5:w5.cell? ⟨gb,1,none⟩=some (.slice a2 xs.length c2):=hD5.g1.trans (by rw [hyl]); have lb5:∀ j,j < 4->w5.cell? ⟨wo.heap.size,j,none⟩=some (.int .i64 (litK j)):=(fun j hj=>gcell hg5 rbo (la j hj)); obtain ⟨U,rfl⟩:=Int.eq_ofNat_of_zero_le hu1)
     | fail))
   | fail
   all_goals
    have hmm:(m:Int) - 1=((m - 1:Nat):Int):=by omega
    go_wp2_with fail
    go_roundw
    case rel=>first | exact ⟨m - 1,ys.set U (litK V,0),by omega,by first | rw [hmm] | (simp; done) | (simp; omega),hl6,by first | exact hDF | exact hDF.below (Below.refl _ _).drew⟩ | exact ⟨m - 1,ys.set U (litK V,0),by omega,by first | rw [hmm] | (simp; done) | (simp; omega),hl6,by first | exact hDFL | exact hDFL.below (Below.refl _ _).drew⟩
    case measure=>simp [intOf]; omega
  ·have g0:=hDo.g0
   have hD9:=hDo.more (P':=P + 100) (by omega)
   have hyl31:ys.length<=31:=by omega
   obtain ⟨p0,p1,fp0,fp1⟩:=And.intro hDo.p0 (And.intro hDo.p1 (And.intro hDo.fp0 hDo.fp1))
   have hfin:CellsAt ((wo.setCell ⟨w.heap.size,0,none⟩ (.int .i64 wd)).setCell ⟨w.heap.size,1,none⟩ (.slice a2 ys.length c2)) a2 ys:=by
    by_cases hx:ys=[]
    ·exact Or.inl hx
    ·exact (hD9.cells.set (bb:=w.heap.size) (fun b off e=>by have:=hD9.new b off e hx; omega) _).set (bb:=w.heap.size) (fun b off e=>by have:=hD9.new b off e hx; omega) _
   have hrd:RdQ ((wo.setCell ⟨w.heap.size,0,none⟩ (.int .i64 wd)).setCell ⟨w.heap.size,1,none⟩ (.slice a2 ys.length c2)) rb L (P + 100):=hD9.rd.below (((Below.refl _ _).setCell (p:=⟨w.heap.size,0,none⟩) (by show L<=w.heap.size; omega) _).setCell (p:=⟨w.heap.size,1,none⟩) (by show L<=w.heap.size; omega) _)
   have hgf:w.grownBy ((wo.setCell ⟨w.heap.size,0,none⟩ (.int .i64 wd)).setCell ⟨w.heap.size,1,none⟩ (.slice a2 ys.length c2)) (some rb):=gset (gset hD9.gr (p:=⟨w.heap.size,0,none⟩) (by show w.heap.size<=w.heap.size; omega) _) (p:=⟨w.heap.size,1,none⟩) (by show w.heap.size<=w.heap.size; omega) _
   have hnw:∀ b off,a2=some ⟨b,off,none⟩->ys ≠ []->w.heap.size<=b:=fun b off e hx=>by have:=hD9.new b off e hx; omega
   rw [<- hyl] at g1 hgo
   clear hDo hyl hD3
   by_cases hm0:0 < m
   all_goals
    first
     | (have hx0:¬ 0 < ys.length:=fun q=>hgo ⟨hm0,q⟩
        have b0:decide ((0:Int) < (m:Int))=true:=decide_eq_true (by omega)
        have b1:decide ((0:Int) < (ys.length:Int))=false:=decide_eq_false (by omega)
        have i1:¬ (0:Int) < (ys.length:Int):=by omega)
     | (have b0:decide ((0:Int) < (m:Int))=false:=decide_eq_false (by omega)
        have i1:¬ (0:Int) < (m:Int):=by omega)
    go_wp2
    refine bodyPost_ret (v:=.agg #[.int .i64 wd,.slice a2 ys.length c2]) (by simp [results,Tryz.results37,go_sem,p0,p1]) rfl ⟨wd,a2,c2,ys,rfl,hfin,hnw,hyl31,hrd,hgf⟩
end Sp
namespace Sp
open Go.RowKit
attribute [local go_sem ↓] Go.wp_at_zero Go.wp_at_succ
theorem llInts_same (a a2:Option Addr) (c c2:Nat) (es:List Int) (w:World) (h:R1At w a es) (h2:R1At w a2 es) (hm:es.length<=1000000) :
  Calls SqP.prog 13 #[.slice a es.length c,.slice a2 es.length c2] w fun e w'=>e=.returned (.bool true)/\Below w.heap.size w w':=by
 have bl:((es.length:Int) != (es.length:Int))=false:=by simp
 go_enter SqP.func13,Tryz.ntmps13
 go_wp2_with fail
 go_loopw [5] (fun ii wr=>∃ i:Nat,i<=es.length/\ii=.int .i64 i/\Below w.heap.size w wr) (fun ii _=>es.length - (intOf ii).toNat)
 case atStart=>exact ⟨0,Nat.zero_le _,rfl,Below.refl _ _⟩
 case round =>
  rename World=>wo
  obtain ⟨i,hi,rfl,hb⟩:=hrel
  by_cases hlt:i < es.length
  ·rcases h.below hb with q | ⟨b,off,ea,_,hc⟩
   ·rw [q] at hlt; simp at hlt
   rcases h2.below hb with q | ⟨b2,off2,ea2,_,hc2⟩
   ·rw [q] at hlt; simp at hlt
   subst ea
   subst ea2
   have x0:=hc i hlt
   have y0:=hc2 i hlt
   obtain ⟨t,et⟩:∃ t,es.getD i 0=t:=⟨_,rfl⟩
   rw [et] at x0 y0
   have hne:(t != t)=false:=by simp
   clear h h2 hc hc2 et
   go_wp2_with fail
   go_quiet (fail)
   have hbq:Below w.heap.size w (wo.drewN nq):=⟨hb.os,hb.tape,hb.output,hb.size,hb.block⟩
   go_wp2_with fail
   go_roundw
   case rel=>exact ⟨i + 1,by omega,by go_num,hbq⟩
   case measure=>simp [intOf]; omega
  ·go_wp2_with fail
   go_ret
   exact ⟨rfl,hb⟩
end Sp
end Go.Proofs.YtdhopelplokehaaGreat
