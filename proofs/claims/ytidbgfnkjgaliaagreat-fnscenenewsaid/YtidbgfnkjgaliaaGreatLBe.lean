/- Part. -/
import Derived.Test.YtidbgfnkjgaliaaGreatLBc
set_option maxHeartbeats 4000000
set_option linter.unusedVariables false
namespace Go.Proofs.YtidbgfnkjgaliaaGreat
variable{wd:Int}{xs:List (Int × Int)}{L P c gb rb:Nat}{a:Option Addr}{w wr:World}
namespace Sp
open Go.RowKit
attribute [local go_sem ↓] Go.wp_at_zero Go.wp_at_succ
structure DB(w wr:World)(rb L gb:Nat)(wd:Int)(a:Option Addr)(c:Nat)(xs:List (Int × Int))(P:Nat):Prop where
 gr:w.grownBy wr (some rb)
 p0:wr.cell? ⟨w.heap.size,0,none⟩=some (.int .i64 0)
 p1:wr.cell? ⟨w.heap.size,1,none⟩=some (.slice none 0 0)
 fp0:wr.frozen? ⟨w.heap.size,0,none⟩=false
 fp1:wr.frozen? ⟨w.heap.size,1,none⟩=false
 g0:wr.cell? ⟨gb,0,none⟩=some (.int .i64 wd)
 g1:wr.cell? ⟨gb,1,none⟩=some (.slice a xs.length c)
 sz:w.heap.size<gb/\gb<wr.heap.size
 rbw:rb<w.heap.size/\L<=w.heap.size
 rd:RdQ wr rb L P
 cells:zah wr a xs
 unf:UnF wr a xs
 new:∀ b off,a=some ⟨b,off,none⟩->xs≠[]->w.heap.size<b/\b≠gb
theorem DB.more{P':Nat}(h:DB w wr rb L gb wd a c xs P)(hp:P<=P'):DB w wr rb L gb wd a c xs P' :=
 ⟨h.gr,h.p0,h.p1,h.fp0,h.fp1,h.g0,h.g1,h.sz,h.rbw,h.rd.more hp,h.cells,h.unf,h.new⟩
theorem DB.call{w2:World}{P':Nat}(h:DB w wr rb L gb wd a c xs P)(hg:wr.grownBy w2 (some rb))(hr:RdQ w2 rb L P'):DB w w2 rb L gb wd a c xs P':=by
 obtain⟨s1,s2⟩:=h.sz
 obtain⟨r1,r2⟩:=h.rbw
 have hz:=hg.size
 have n1:w.heap.size≠rb:=by omega
 have n2:gb≠rb:=by omega
 refine⟨⟨hg.os.trans h.gr.os,hg.tape.trans h.gr.tape,hg.output.trans h.gr.output,Nat.le_trans h.gr.size hg.size,fun k hk hne=>(hg.block k (by have:=h.gr.size;omega) hne).trans (h.gr.block k hk hne)⟩,
  zaN hg n1 h.p0,zaN hg n1 h.p1,zbu hg n1 h.p0 h.fp0,zbu hg n1 h.p1 h.fp1,zaN hg n2 h.g0,zaN hg n2 h.g1,by omega,h.rbw,hr,?_,?_,h.new⟩
 ·by_cases hx:xs=[]
  ·exact Or.inl hx
  ·exact h.cells.grown hg (fun b off e=>by have:=h.new b off e hx;omega)
 ·by_cases hx:xs=[]
  ·intro b off e i hi;rw[hx] at hi;simp at hi
  ·exact h.unf.grown h.cells hg (fun b off e=>by have:=h.new b off e hx;omega)
theorem DB.below{w2:World}(h:DB w wr rb L gb wd a c xs P)(hb:Below wr.heap.size wr w2):DB w w2 rb L gb wd a c xs P:=by
 obtain⟨s1,s2⟩:=h.sz
 have hz:=hb.size
 have hw:=h.gr.size
 exact⟨ziB h.gr hb,zab hb h.p0,zab hb h.p1,zal hb h.p0 h.fp0,zal hb h.p1 h.fp1,zab hb h.g0,zab hb h.g1,by omega,h.rbw,h.rd.below (hb.mono (by have:=h.rbw;omega)),h.cells.below hb,h.unf.below h.cells hb,h.new⟩
theorem DB.put{b off:Nat}(h:DB w wr rb L gb wd (some ⟨b,off,none⟩) c xs P)(i:Nat)(hi:i<xs.length)(k l:Int) :
  DB w ((wr.setCell ⟨b,off+i * 2,none⟩ (.int .i64 k)).setCell ⟨b,off+i * 2+1,none⟩ (.int .i64 l)) rb L gb wd (some ⟨b,off,none⟩) c (xs.set i (k,l)) P:=by
 have hx:xs≠[]:=by intro q;rw[q] at hi;simp at hi
 obtain⟨n1,n2⟩:=h.new b off rfl hx
 obtain⟨s1,s2⟩:=h.sz
 obtain⟨r1,r2⟩:=h.rbw
 have hlen:(xs.set i (k,l)).length=xs.length:=by simp
 have m1:w.heap.size≠b:=by omega
 have m2:gb≠b:=fun e=>n2 e.symm
 have hb2:Below L wr ((wr.setCell ⟨b,off+i * 2,none⟩ (.int .i64 k)).setCell ⟨b,off+i * 2+1,none⟩ (.int .i64 l)) :=
  ((Below.refl _ _).setCell (p:=⟨b,off+i * 2,none⟩) (by show L<=b;omega) _).setCell (p:=⟨b,off+i * 2+1,none⟩) (by show L<=b;omega) _
 refine⟨zhP (zhP h.gr (p:=⟨b,off+i * 2,none⟩) (by show w.heap.size<=b;omega) _) (p:=⟨b,off+i * 2+1,none⟩) (by show w.heap.size<=b;omega) _,zdd m1 (zdd m1 h.p0),zdd m1 (zdd m1 h.p1),zkN m1 (zkN m1 h.fp0),zkN m1 (zkN m1 h.fp1),zdd m2 (zdd m2 h.g0),?_,by simpa using h.sz,h.rbw,h.rd.below hb2,?_,?_,fun b' off' e _=>h.new b' off' e hx⟩
 ·rw[hlen]
  exact zdd m2 (zdd m2 h.g1)
 ·rcases h.cells with q|⟨b',off',e,hbl,hc⟩
  ·rw[q] at hi;simp at hi
  ·simp only[Option.some.injEq,Addr.mk.injEq,and_true] at e
   obtain⟨rfl,rfl⟩:=e
   refine Or.inr ⟨b,off,rfl,by simpa using hbl,fun j hj=>?_⟩
   rw[hlen] at hj
   by_cases e:j=i
   ·subst e
    have g:(xs.set j (k,l)).getD j (0,0)=(k,l):=by simp[hj]
    rw[g]
    refine⟨?_,?_⟩
    ·exact zkM (by omega) (World.cell?_setCell_same _ _ _ (by rw[(hc j hj).1]))
    ·exact World.cell?_setCell_same _ _ _ (by rw[zkM (show off+j * 2+1≠off+j * 2 by omega) (hc j hj).2])
   ·have g:(xs.set i (k,l)).getD j (0,0)=xs.getD j (0,0):=by simp[Ne.symm e]
    rw[g]
    exact⟨zkM (by omega) (zkM (by omega) (hc j hj).1),zkM (by omega) (zkM (by omega) (hc j hj).2)⟩
 ·intro b' off' e j hj
  rw[hlen] at hj
  exact h.unf.set.set b' off' e j hj
theorem DB.at{w wr:World}{rb L gb:Nat}{wd:Int}{a:Option Addr}{c:Nat}{xs:List (Int × Int)}{P:Nat}(h:DB w wr rb L gb wd a c xs P)(i:Nat)(hi:i<xs.length) :
  ∃ b off,a=some ⟨b,off,none⟩/\(∃ u,wr.cell? ⟨b,off+i * 2,none⟩=some (.int .i64 u))/\(∃ u,wr.cell? ⟨b,off+i * 2+1,none⟩=some (.int .i64 u))/\wr.frozen? ⟨b,off+i * 2,none⟩=false/\wr.frozen? ⟨b,off+i * 2+1,none⟩=false:=by
 rcases h.cells with q|⟨b,off,e,hbl,hc⟩
 ·rw[q] at hi;simp at hi
 ·obtain⟨f1,f2⟩:=h.unf b off e i hi
  exact⟨b,off,e,⟨_,(hc i hi).1⟩,⟨_,(hc i hi).2⟩,f1,f2⟩
def zio(j:Nat):Int:=if j=0 then 2 else if j=1 then 3 else if j=2 then 4 else 5
theorem zmY(w:World)(j:Nat)(hj:j<4):(w.alloc (.cells #[.int .i64 2,.int .i64 3,.int .i64 4,.int .i64 5] 3)).cell? ⟨w.heap.size,j,none⟩=some (.int .i64 (zio j)):=by
 rcases j with _|_|_|_|j
 ·simp[go_sem,zio]
 ·simp[go_sem,zio]
 ·simp[go_sem,zio]
 ·simp[go_sem,zio]
 ·omega
set_option maxRecDepth 20000 in
theorem zhs(w:World)(rb L P:Nat)(h:RdQ w rb L P)(hp:P<=700000)(hL:L<=w.heap.size) :
  Calls SqP.prog 22 #[.pointer (some ⟨rb,0,none⟩)] w fun e w'=>∃ (wd:Int) (a:Option Addr) (c:Nat) (xs:List (Int × Int)),e=.returned (.agg #[.int .i64 wd,.slice a xs.length c])/\zah w' a xs/\(∀ b off,a=some ⟨b,off,none⟩->xs≠[]->w.heap.size<=b)/\xs.length<=31/\RdQ w' rb L (P+100)/\w.grownBy w' (some rb):=by
 obtain⟨hrl,hrw⟩:=h.lt
 have hbR:Below w.heap.size w (w.alloc (.cells #[.int .i64 0,.slice none 0 0] 25)):=bel
 have h0:=h.below (hbR.mono hL)
 go_enter SqP.func22,Tryz.ntmps22
 go_wp2_with fail
 refine(zim _ rb L P h0 (by omega) (by simp;omega)).mono ?_
 rintro e w2 ⟨wd,a2,c2,xs,rfl,hok2,hxl,hr2,hg2⟩
 have hz2:=hg2.size
 simp at hz2
 have nr:w.heap.size≠rb:=by omega
 have p0:w2.cell? ⟨w.heap.size,0,none⟩=some (.int .i64 0):=zaN hg2 nr (by simp[go_sem])
 have p1:w2.cell? ⟨w.heap.size,1,none⟩=some (.slice none 0 0):=zaN hg2 nr (by simp[go_sem])
 have fp0:w2.frozen? ⟨w.heap.size,0,none⟩=false:=zbu hg2 nr (v:=.int .i64 0) (by simp[go_sem]) (by simp[go_sem])
 have fp1:w2.frozen? ⟨w.heap.size,1,none⟩=false:=zbu hg2 nr (v:=.slice none 0 0) (by simp[go_sem]) (by simp[go_sem])
 have hgw:w.grownBy w2 (some rb):=⟨hg2.os.trans hbR.os,hg2.tape.trans hbR.tape,hg2.output.trans hbR.output,by omega,fun k hk hne=>(hg2.block k (by simp;omega) hne).trans (hbR.block k hk)⟩
 have hC2:=hok2.cells
 have hU2:=hok2.unf
 have hn2:∀ b off,a2=some ⟨b,off,none⟩->w.heap.size+1<=b:=fun b off e=>by have:=hok2.new b off e;simpa using this
 clear hok2 hg2 h0 hbR
 have hbG:Below w2.heap.size w2 (w2.alloc (.cells #[.int .i64 wd,.slice a2 xs.length c2] 25)):=bel
 have hD:DB w (w2.alloc (.cells #[.int .i64 wd,.slice a2 xs.length c2] 25)) rb L w2.heap.size wd a2 c2 xs (P+70):=by
  refine⟨ziB hgw hbG,zab hbG p0,zab hbG p1,zal hbG p0 fp0,zal hbG p1 fp1,by simp[go_sem],by simp[go_sem],by simp;omega,⟨hrw,hL⟩,hr2.below (hbG.mono (by omega)),hC2.below hbG,hU2.below hC2 hbG,fun b off e hx=>⟨by have:=hn2 b off e;omega,?_⟩⟩
  rcases hC2 with q|⟨b',off',e',hbl,_⟩
  ·exact absurd q hx
  ·rw[e] at e'
   simp only[Option.some.injEq,Addr.mk.injEq,and_true] at e'
   omega
 clear hbG hC2 hn2 hU2 hr2 fp0 fp1 p0 p1 hgw
 go_wp2_with fail
 obtain⟨wz,hwz⟩:∃ wz,wz=w2.alloc (.cells #[.int .i64 wd,.slice a2 xs.length c2] 25):=⟨_,rfl⟩
 rw[<- hwz] at hD ⊢
 clear hwz
 refine(zdz 8 _ rb L (P+70) hD.rd (by omega) (by omega)).mono ?_
 rintro e w3 ⟨v3,rfl,hv1,hv2,hr3,hg3⟩
 have hD3:=(hD.call hg3 hr3).more (P':=P+100 - 2 * v3.toNat) (by omega)
 obtain⟨M,rfl⟩:=Int.eq_ofNat_of_zero_le hv1
 simp only[Int.toNat_natCast] at hD3
 obtain⟨gb,egb⟩:∃ gb,w2.heap.size=gb:=⟨_,rfl⟩
 rw[egb] at hD3 ⊢
 clear hD hg3 hr3 hv1 egb
 go_wp2_with fail
 go_loopw [4] (fun nn wr=>∃ (m:Nat) (ys:List (Int × Int)),m<=8/\nn=.int .i64 m/\ys.length=xs.length/\DB w wr rb L gb wd a2 c2 ys (P+100 - 2 * m)) (fun nn _=>(intOf nn).toNat)
 case atStart=>exact⟨M,xs,by omega,rfl,rfl,hD3⟩
 case round =>
  rename World=>wo
  obtain⟨m,ys,hm,rfl,hyl,hDo⟩:=hrel
  have g1:=hDo.g1
  rw[hyl] at g1
  by_cases hgo:0<m/\0<xs.length
  ·obtain⟨hm0,hx0⟩:=hgo
   have b0:decide ((0:Int)<(m:Int))=true:=decide_eq_true (by omega)
   have b1:decide ((0:Int)<(xs.length:Int))=true:=decide_eq_true (by omega)
   have i0:(0:Int)<(m:Int):=by omega
   have i1:(0:Int)<(xs.length:Int):=by omega
   have hbL:Below wo.heap.size wo (wo.alloc (.cells #[.int .i64 2,.int .i64 3,.int .i64 4,.int .i64 5] 3)):=bel
   have hDL:=hDo.below hbL
   have la:=zmY wo
   have rbo:wo.heap.size≠rb:=by have:=hDo.gr.size;omega
   go_wp2
   have gqL:(wo.alloc (.cells #[.int .i64 2,.int .i64 3,.int .i64 4,.int .i64 5] 3)).cell? ⟨gb,1,none⟩=some (.slice a2 xs.length c2):=zab hbL g1
   first
   | (go_region_with
    (first
     | (have hguard:=lb5;go_at_call 43;refine(zdz 4 _ rb L (P+100 - 2 * m+1) (by first|exact hD5.rd|exact hD5.rd.below (Below.refl _ _).drew) (by omega) (by omega)).mono ?_;rintro e w6 ⟨u6,rfl,hu3,hu4,hr6,hg6'⟩;have hg6:w5.grownBy w6 (some rb):=(by first|exact hg6'|exact zh8 hg6');have hD6:=hD5.call hg6 hr6;obtain⟨V,rfl⟩:=Int.eq_ofNat_of_zero_le hu3;have lk:w6.cell? ⟨wo.heap.size,V,none⟩=some (.int .i64 (zio V)):=zaN hg6 rbo (lb5 V (by omega));have gq6:w6.cell? ⟨gb,1,none⟩=some (.slice a2 xs.length c2):=hD6.g1.trans (by rw[hyl]);have hvi:(V:Int)<4:=(by omega);have hui:(U:Int)<(xs.length:Int):=(by omega);obtain⟨b,off,rfl,⟨k1,c1'⟩,⟨k2,c2'⟩,f1,f2⟩:=hD6.at U (by omega);have hDF:=(hD6.put U (by omega) (zio V) 0).more (P':=P+100 - 2 * (m - 1)) (by omega);have hl6:(ys.set U (zio V,0)).length=xs.length:=(by rw[List.length_set];exact hyl))
     | (have hguard:=hD5L;go_at_call 43;refine(zdz 4 _ rb L (P+100 - 2 * m+1) (by first|exact hD5L.rd|exact hD5L.rd.below (Below.refl _ _).drew) (by omega) (by omega)).mono ?_;rintro e w6 ⟨u6,rfl,hu3,hu4,hr6,hg6'⟩;have hg6:(w5.alloc (.cells #[.int .i64 2,.int .i64 3,.int .i64 4,.int .i64 5] 3)).grownBy w6 (some rb):=(by first|exact hg6'|exact zh8 hg6');have hD6:=hD5L.call hg6 hr6;obtain⟨V,rfl⟩:=Int.eq_ofNat_of_zero_le hu3;have lk:w6.cell? ⟨w5.heap.size,V,none⟩=some (.int .i64 (zio V)):=zaN hg6 rb5 (zmY w5 V (by omega));have gq6:w6.cell? ⟨gb,1,none⟩=some (.slice a2 xs.length c2):=hD6.g1.trans (by rw[hyl]);have hvi:(V:Int)<4:=(by omega);have hui:(U:Int)<(xs.length:Int):=(by omega);obtain⟨b,off,rfl,⟨k1,c1'⟩,⟨k2,c2'⟩,f1,f2⟩:=hD6.at U (by omega);have hDF:=(hD6.put U (by omega) (zio V) 0).more (P':=P+100 - 2 * (m - 1)) (by omega);have hl6:(ys.set U (zio V,0)).length=xs.length:=(by rw[List.length_set];exact hyl))
     | (have hguard:=hD5L;go_at_call 43;refine(zdz 4 _ rb L (P+100 - 2 * m+1) (by first|exact hD5.rd|exact hD5.rd.below (Below.refl _ _).drew) (by omega) (by omega)).mono ?_;rintro e w6 ⟨u6,rfl,hu3,hu4,hr6,hg6'⟩;have hg6:w5.grownBy w6 (some rb):=(by first|exact hg6'|exact zh8 hg6');have hD6:=hD5.call hg6 hr6;obtain⟨V,rfl⟩:=Int.eq_ofNat_of_zero_le hu3;have hD6L:=hD6.below ((Below.refl _ _).alloc (Nat.le_refl _) (.cells #[.int .i64 2,.int .i64 3,.int .i64 4,.int .i64 5] 3));have lk:(w6.alloc (.cells #[.int .i64 2,.int .i64 3,.int .i64 4,.int .i64 5] 3)).cell? ⟨w6.heap.size,V,none⟩=some (.int .i64 (zio V)):=zmY w6 V (by omega);have gq6:w6.cell? ⟨gb,1,none⟩=some (.slice a2 xs.length c2):=hD6.g1.trans (by rw[hyl]);have gq6L:(w6.alloc (.cells #[.int .i64 2,.int .i64 3,.int .i64 4,.int .i64 5] 3)).cell? ⟨gb,1,none⟩=some (.slice a2 xs.length c2):=hD6L.g1.trans (by rw[hyl]);have hvi:(V:Int)<4:=(by omega);have hui:(U:Int)<(xs.length:Int):=(by omega);obtain⟨b,off,rfl,⟨k1,c1'⟩,⟨k2,c2'⟩,f1,f2⟩:=hD6L.at U (by omega);have hDFL:=(hD6L.put U (by omega) (zio V) 0).more (P':=P+100 - 2 * (m - 1)) (by omega);have hl6:(ys.set U (zio V,0)).length=xs.length:=(by rw[List.length_set];exact hyl))
     | (go_at_call 43;refine(zdz (xs.length:Int) _ rb L (P+100 - 2 * m) (by first|exact hDo.rd|exact hDo.rd.below (Below.refl _ _).drew) (by omega) (by omega)).mono ?_;rintro e w5 ⟨u5,rfl,hu1,hu2,hr5,hg5'⟩;have hg5:wo.grownBy w5 (some rb):=(by first|exact hg5'|exact zh8 hg5');have hD5:=hDo.call hg5 hr5;have hD5L:=hD5.below ((Below.refl _ _).alloc (Nat.le_refl _) (.cells #[.int .i64 2,.int .i64 3,.int .i64 4,.int .i64 5] 3));have gq5:w5.cell? ⟨gb,1,none⟩=some (.slice a2 xs.length c2):=hD5.g1.trans (by rw[hyl]);have gq5L:(w5.alloc (.cells #[.int .i64 2,.int .i64 3,.int .i64 4,.int .i64 5] 3)).cell? ⟨gb,1,none⟩=some (.slice a2 xs.length c2):=hD5L.g1.trans (by rw[hyl]);have rb5:w5.heap.size≠rb:=(by have:=hD5.gr.size;omega);obtain⟨U,rfl⟩:=Int.eq_ofNat_of_zero_le hu1)
     | (go_at_call 43;refine(zdz (xs.length:Int) _ rb L (P+100 - 2 * m) (by first|exact hDL.rd|exact hDL.rd.below (Below.refl _ _).drew) (by omega) (by omega)).mono ?_;rintro e w5 ⟨u5,rfl,hu1,hu2,hr5,hg5'⟩;have hg5:(wo.alloc (.cells #[.int .i64 2,.int .i64 3,.int .i64 4,.int .i64 5] 3)).grownBy w5 (some rb):=(by first|exact hg5'|exact zh8 hg5');have hD5:=hDL.call hg5 hr5;have gq5:w5.cell? ⟨gb,1,none⟩=some (.slice a2 xs.length c2):=hD5.g1.trans (by rw[hyl]);have lb5:∀ j,j<4->w5.cell? ⟨wo.heap.size,j,none⟩=some (.int .i64 (zio j)):=(fun j hj=>zaN hg5 rbo (la j hj));obtain⟨U,rfl⟩:=Int.eq_ofNat_of_zero_le hu1)
     | fail))
   | fail
   all_goals
    have hmm:(m:Int) - 1=((m - 1:Nat):Int):=by omega
    go_wp2_with fail
    go_roundw
    case rel=>first|exact⟨m - 1,ys.set U (zio V,0),by omega,by first|rw[hmm]|(simp;done)|(simp;omega),hl6,by first|exact hDF|exact hDF.below (Below.refl _ _).drew⟩|exact⟨m - 1,ys.set U (zio V,0),by omega,by first|rw[hmm]|(simp;done)|(simp;omega),hl6,by first|exact hDFL|exact hDFL.below (Below.refl _ _).drew⟩
    case measure=>simp[intOf];omega
  ·have g0:=hDo.g0
   have hD9:=hDo.more (P':=P+100) (by omega)
   have hyl31:ys.length<=31:=by omega
   obtain⟨p0,p1,fp0,fp1⟩:=And.intro hDo.p0 (And.intro hDo.p1 (And.intro hDo.fp0 hDo.fp1))
   have hfin:zah ((wo.setCell ⟨w.heap.size,0,none⟩ (.int .i64 wd)).setCell ⟨w.heap.size,1,none⟩ (.slice a2 ys.length c2)) a2 ys:=by
    by_cases hx:ys=[]
    ·exact Or.inl hx
    ·exact(hD9.cells.set (bb:=w.heap.size) (fun b off e=>by have:=hD9.new b off e hx;omega) _).set (bb:=w.heap.size) (fun b off e=>by have:=hD9.new b off e hx;omega) _
   have hrd:RdQ ((wo.setCell ⟨w.heap.size,0,none⟩ (.int .i64 wd)).setCell ⟨w.heap.size,1,none⟩ (.slice a2 ys.length c2)) rb L (P+100):=hD9.rd.below (((Below.refl _ _).setCell (p:=⟨w.heap.size,0,none⟩) (by show L<=w.heap.size;omega) _).setCell (p:=⟨w.heap.size,1,none⟩) (by show L<=w.heap.size;omega) _)
   have hgf:w.grownBy ((wo.setCell ⟨w.heap.size,0,none⟩ (.int .i64 wd)).setCell ⟨w.heap.size,1,none⟩ (.slice a2 ys.length c2)) (some rb):=zhP (zhP hD9.gr (p:=⟨w.heap.size,0,none⟩) (by show w.heap.size<=w.heap.size;omega) _) (p:=⟨w.heap.size,1,none⟩) (by show w.heap.size<=w.heap.size;omega) _
   have hnw:∀ b off,a2=some ⟨b,off,none⟩->ys≠[]->w.heap.size<=b:=fun b off e hx=>by have:=hD9.new b off e hx;omega
   rw[<- hyl] at g1 hgo
   clear hDo hyl hD3
   by_cases hm0:0<m
   all_goals
    first
     | (have hx0:¬ 0<ys.length:=fun q=>hgo ⟨hm0,q⟩
        have b0:decide ((0:Int)<(m:Int))=true:=decide_eq_true (by omega)
        have b1:decide ((0:Int)<(ys.length:Int))=false:=decide_eq_false (by omega)
        have i1:¬ (0:Int)<(ys.length:Int):=by omega)
     | (have b0:decide ((0:Int)<(m:Int))=false:=decide_eq_false (by omega)
        have i1:¬ (0:Int)<(m:Int):=by omega)
    go_wp2
    refine bodyPost_ret (v:=.agg #[.int .i64 wd,.slice a2 ys.length c2]) (by simp[results,Tryz.results22,go_sem,p0,p1]) rfl ⟨wd,a2,c2,ys,rfl,hfin,hnw,hyl31,hrd,hgf⟩
theorem zeI(a:Option Addr)(n cap:Nat)(f:Nat->Int)(w:World)(h:BytesAt w a n f)(hn:n<=1048576)(hcap:n<=cap)(hc2:cap<=9223372036854775807) :
  Calls SqP.prog 5 #[.slice a n cap] w fun e w'=>∃ (wd:Int) (a:Option Addr) (c:Nat) (xs:List (Int × Int)),e=.returned (.agg #[.int .i64 wd,.slice a xs.length c])/\zah w' a xs/\xs.length<=31/\Below w.heap.size w w':=by
 go_enter SqP.func5,Tryz.ntmps5
 go_wp2_with fail
 refine(zlh _ n _ f _ (h.below bel) hn hcap hc2).mono ?_
 rintro e w1 ⟨rfl,hr1,hb1⟩
 have hz1:=hb1.size
 simp at hz1 hr1
 have s1:w.heap.size+1<w1.heap.size:=by have:=hr1.lt;omega
 have p4:w1.cell? ⟨w.heap.size,0,none⟩=some (.int .i64 0):=zab hb1 (by simp[go_sem])
 have p5:w1.cell? ⟨w.heap.size,1,none⟩=some (.slice none 0 0):=zab hb1 (by simp[go_sem])
 have f4:w1.frozen? ⟨w.heap.size,0,none⟩=false:=zal hb1 (v:=.int .i64 0) (by simp[go_sem]) (by simp[go_sem])
 have f5:w1.frozen? ⟨w.heap.size,1,none⟩=false:=zal hb1 (v:=.slice none 0 0) (by simp[go_sem]) (by simp[go_sem])
 have hB1:Below w.heap.size w w1:=zak bel (by simp) hb1
 clear hb1
 go_wp2_with fail
 refine(zhs _ (w.heap.size+1) (w.heap.size+1+1) 0 hr1 (by omega) (by omega)).mono ?_
 rintro e w2 ⟨wd,a2,c2,xs,rfl,hC2,hn2,hxl,hr2,hg2⟩
 have nr:w.heap.size≠w.heap.size+1:=by omega
 replace f4:=zbu hg2 nr p4 f4
 replace f5:=zbu hg2 nr p5 f5
 replace p4:=zaN hg2 nr p4
 replace p5:=zaN hg2 nr p5
 have hB2:Below w.heap.size w w2:=⟨hg2.os.trans hB1.os,hg2.tape.trans hB1.tape,hg2.output.trans hB1.output,Nat.le_trans hB1.size hg2.size,fun k hk=>(hg2.block k (by omega) (by simp;omega)).trans (hB1.block k hk)⟩
 go_wp2
 refine bodyPost_ret (v:=.agg #[.int .i64 wd,.slice a2 xs.length c2]) (by simp[results,Tryz.results5,go_sem,p4,p5]) rfl ⟨wd,a2,c2,xs,rfl,?_,hxl,?_⟩
 ·by_cases hx:xs=[]
  ·exact .inl hx
  ·exact(hC2.set (bb:=w.heap.size) (fun b off e=>by have:=hn2 b off e hx;omega) _).set (bb:=w.heap.size) (fun b off e=>by have:=hn2 b off e hx;omega) _
 ·exact(hB2.setCell (p:=⟨w.heap.size,0,none⟩) (Nat.le_refl _) _).setCell (p:=⟨w.heap.size,1,none⟩) (Nat.le_refl _) _
