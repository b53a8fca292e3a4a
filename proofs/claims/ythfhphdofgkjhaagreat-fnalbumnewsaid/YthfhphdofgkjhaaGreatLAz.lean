/- Part. -/
import Derived.Deep.DrawnRows
import Derived.Test.YthfhphdofgkjhaaGreatLAw
set_option maxHeartbeats 1000000
set_option linter.unusedVariables false
namespace Go.Proofs.YthfhphdofgkjhaaGreat
variable{fs:List (List Int)}{xs:List Int}{a:Option Addr}{w w':World}
section
open Go
noncomputable abbrev SqP.prog:Program:=SqG.prog Sq.altP
abbrev SqP.underlying23:=@SqG.underlying23 Sq.altP
abbrev SqP.underlying28:=@SqG.underlying28 Sq.altP
abbrev SqP.func3:=@SqG.func3 Sq.altP
abbrev SqP.func4:=@SqG.func4 Sq.altP
abbrev SqP.func5:=@SqG.func5 Sq.altP
abbrev SqP.func6:=@SqG.func6 Sq.altP
abbrev SqP.func7:=@SqG.func7 Sq.altP
theorem SqP.func8:SqP.prog.funcs[8]?=some (zlx Tryz.f8):=zj6 rfl Tryz.func8
theorem SqP.ntmps8:(zlx Tryz.f8).ntmps=22:=rfl
theorem SqP.body8:(zlx Tryz.f8).body=some zqo:=rfl
theorem SqP.results8:(zlx Tryz.f8).results=Tryz.f8.results:=rfl
@[simp] theorem SqP.call8(a : Array Value)(w : World) : (callFunc 8 a).run SqP.prog w = .ok (.enter 8 a) w := zi5 rfl Tryz.func8 rfl rfl a w
abbrev SqP.func9:=@SqG.func9 Sq.altP
abbrev SqP.func10:=@SqG.func10 Sq.altP
abbrev SqP.func11:=@SqG.func11 Sq.altP
abbrev SqP.func12:=@SqG.func12 Sq.altP
abbrev SqP.func13:=@SqG.func13 Sq.altP
abbrev SqP.func14:=@SqG.func14 Sq.altP
abbrev SqP.func15:=@SqG.func15 Sq.altP
abbrev SqP.func16:=@SqG.func16 Sq.altP
abbrev SqP.func22:=@SqG.func22 Sq.altP
abbrev SqP.func23:=@SqG.func23 Sq.altP
abbrev SqP.func25:=@SqG.func25 Sq.altP
abbrev SqP.func26:=@SqG.func26 Sq.altP
abbrev SqP.func27:=@SqG.func27 Sq.altP
abbrev SqP.func28:=@SqG.func28 Sq.altP
abbrev SqP.func29:=@SqG.func29 Sq.altP
abbrev SqP.func30:=@SqG.func30 Sq.altP
abbrev SqP.func31:=@SqG.func31 Sq.altP
abbrev SqP.func32:=@SqG.func32 Sq.altP
abbrev SqP.func33:=@SqG.func33 Sq.altP
abbrev SqP.func51:=@SqG.func51 Sq.altP
abbrev SqP.func54:=@SqG.func54 Sq.altP
abbrev SqP.func55:=@SqG.func55 Sq.altP
abbrev SqP.func56:=@SqG.func56 Sq.altP
end
namespace Sp
open Go.RowKit
attribute [local go_sem ↓] Go.wp_at_zero Go.wp_at_succ
theorem zqp{Q:Exit->Act->World->Prop}{rest:Code}(wd:Int)(a:Option Addr)(cap:Nat)(cs:List (Int × Int))(w:World)(h:zai w a cs)(hm:cs.length<4611686018427387904)(hK:∀(w':World) (u1 u2 u3 u4 u5 u6 u7 u8 u9 u10 u11 u12 u13 u14 u15 u16 u17 u18 u19 u20 u21:Value),Below w.heap.size w w'->Code.wp SqP.prog rest Q ⟨#[.agg #[.int .i64 wd,.slice a cs.length cap],u1,u2,u3,u4,u5,u6,u7,u8,u9,u10,u11,u12,u13,u14,u15,u16,u17,u18,u19,u20,u21],[]⟩ w') :
  Code.wp SqP.prog (zi3 rest) Q ⟨#[.agg #[.int .i64 wd,.slice a cs.length cap],undef,undef,undef,undef,undef,undef,undef,undef,undef,undef,undef,undef,undef,undef,undef,undef,undef,undef,undef,undef,undef],[]⟩ w:=by
 unfold zi3 ckA ckS ckL
 simp only[opr]
 have b1:decide ((cs.length:Int)<4611686018427387904)=true:=decide_eq_true (by omega)
 have wz:IntKind.i64.wrap (wd * 0)=0:=by rw[Int.mul_zero];exact IntWalk.i64_in _ (by omega)
 have hb0:Below w.heap.size w (w.alloc (.cells #[.int .i64 wd,.slice a cs.length cap] 25)):=bel
 have g0:(w.alloc (.cells #[.int .i64 wd,.slice a cs.length cap] 25)).cell? ⟨w.heap.size,0,none⟩=some (.int .i64 wd):=by simp[go_sem]
 have g1:(w.alloc (.cells #[.int .i64 wd,.slice a cs.length cap] 25)).cell? ⟨w.heap.size,1,none⟩=some (.slice a cs.length cap):=by simp[go_sem]
 have f0:(w.alloc (.cells #[.int .i64 wd,.slice a cs.length cap] 25)).frozen? ⟨w.heap.size,0,none⟩=false:=by simp[go_sem]
 have f1:(w.alloc (.cells #[.int .i64 wd,.slice a cs.length cap] 25)).frozen? ⟨w.heap.size,1,none⟩=false:=by simp[go_sem]
 go_wp2_with fail
 obtain⟨w1,hw1⟩:∃ w1,w1=w.alloc (.cells #[.int .i64 wd,.slice a cs.length cap] 25):=⟨_,rfl⟩
 rw[<- hw1] at hb0 g0 g1 f0 f1 ⊢
 clear hw1 wz
 have hC:=h.below hb0
 go_loopw [9,10,11,12,13,14,15,16,17,18] (fun ii _ _ _ _ _ _ _ _ _ wr=>∃ i:Nat,i<=cs.length/\ii=.int .i64 i/\wr=w1) (fun ii _ _ _ _ _ _ _ _ _ _=>cs.length - (intOf ii).toNat)
 case atStart=>exact⟨0,Nat.zero_le _,rfl,rfl⟩
 case round =>
  rename World=>wo
  obtain⟨i,hi,rfl,ew⟩:=hrel
  subst ew
  by_cases hlt:i<cs.length
  ·rcases hC with q|⟨b,off,rfl,hbl,hc⟩
   ·rw[q] at hlt;simp at hlt
   obtain⟨z0,z1⟩:=hc i hlt
   obtain⟨t,et⟩:∃ t,cs.getD i (0,0)=t:=⟨_,rfl⟩
   rw[et] at z0 z1
   obtain⟨t0,t1⟩:=t
   simp only at z0 z1
   have bl:decide ((i:Int)<(cs.length:Int))=true:=decide_eq_true (by omega)
   have wa:IntKind.i64.wrap (t0 * 0)=0:=by rw[Int.mul_zero];exact IntWalk.i64_in _ (by omega)
   have wb:IntKind.i64.wrap (t1 * 0)=0:=by rw[Int.mul_zero];exact IntWalk.i64_in _ (by omega)
   have wi:IntKind.i64.wrap ((i:Int)+1)=(i:Int)+1:=IntWalk.i64_in _ (by omega)
   clear hc et
   go_wp2_with fail
   go_roundw
   case rel=>exact⟨i+1,by omega,by go_num,by first|rfl|trivial⟩
   case measure=>simp[intOf];omega
  ·have bl:decide ((i:Int)<(cs.length:Int))=false:=decide_eq_false (by omega)
   have hb2:=(hb0.setCell (p:=⟨w.heap.size,0,none⟩) (Nat.le_refl _) (.int .i64 wd)).setCell (p:=⟨w.heap.size,1,none⟩) (Nat.le_refl _) (.slice a cs.length cap)
   go_wp2_with fail
   exact hK _ _ _ _ _ _ _ _ _ _ _ _ _ _ _ _ _ _ _ _ _ _ hb2
end Sp
namespace Sp
variable{aLt:Nat->Func->Func}
open Go.RowKit
def ziT(w:World)(a:Option Addr)(xs:List Int):Prop:=xs=[]\/∃ b off,a=some ⟨b,off,none⟩/\b<w.heap.size/\∀ i,i<xs.length->w.cell? ⟨b,off+i,none⟩=some (.int .i64 (xs.getD i 0))
theorem ziT.below(h:ziT w a xs)(hb:Below w.heap.size w w'):ziT w' a xs:=by
 rcases h with h|⟨b,off,rfl,hbl,hc⟩
 ·exact Or.inl h
 ·exact Or.inr ⟨b,off,rfl,nll hbl hb.size,fun i hi=>zab hb (hc i hi)⟩
theorem ziT.at{w:World}{a:Option Addr}{xs:List Int}(h:ziT w a xs){i:Nat}(hi:i<xs.length):∃ b off,a=some ⟨b,off,none⟩/\b<w.heap.size/\w.cell? ⟨b,off+i,none⟩=some (.int .i64 (xs.getD i 0)):=by
 rcases h with q|⟨b,off,e,hb,hc⟩
 ·rw[q] at hi;simp at hi
 ·exact⟨b,off,e,hb,hc i hi⟩
theorem zoL:((SqG.prog aLt).info? 3).map (fun i=>(i.zero,i.size,i.bytes))=some (some (.int .i64 0),1,8):=by kernel_rfl
theorem zkn(n:Nat)(hn:n<=1048576)(w:World):(Instr.makeSlice 27 (.int .i64 (n:Int)) (.int .i64 (n:Int))).run (SqG.prog aLt) w=.ok (.slice (some ⟨w.heap.size,0,none⟩) n n) (w.alloc (.cells (madeCells #[.int .i64 0] n) 3)):=by
 obtain⟨i0,hi,iz0,iz1,iz2⟩:=info_parts (zoL (aLt:=aLt))
 have:=run_make (P:=(SqG.prog aLt)) w 27 3 i0 (.int .i64 0) SqG.underlying27 hi iz0 .i64 .i64 (n:Int) (n:Int) (by omega) (by omega) (by rw[iz2];omega) (by omega)
 rw[iz1] at this
 simpa [Value.cells] using this
end Sp
namespace Sp
open Go.RowKit
attribute [local go_sem ↓] Go.wp_at_zero Go.wp_at_succ
theorem zqt{a b:List Int}(hl:a.length=b.length)(h:∀ i,i<a.length->a.getD i 0=b.getD i 0):a=b:=by
 refine List.ext_getElem hl fun i h1 h2=>?_
 have:=h i h1
 simpa [List.getD,List.getElem?_eq_getElem h1,List.getElem?_eq_getElem h2] using this
theorem zoz{a b:List (List Int)}(hl:a.length=b.length)(h:∀ i,i<a.length->a.getD i []=b.getD i []):a=b:=by
 refine List.ext_getElem hl fun i h1 h2=>?_
 have:=h i h1
 simpa [List.getD,List.getElem?_eq_getElem h1,List.getElem?_eq_getElem h2] using this
def zkP(w:World)(a:Option Addr)(fs:List (List Int)):Prop:=fs=[]\/∃ b off,a=some ⟨b,off,none⟩/\b<w.heap.size/\∀ k,k<fs.length->∃ a' c',w.cell? ⟨b,off+k,none⟩=some (.slice a' (fs.getD k []).length c')/\ziT w a' (fs.getD k [])
theorem zkP.below(h:zkP w a fs)(hb:Below w.heap.size w w'):zkP w' a fs:=by
 rcases h with h|⟨b,off,rfl,hbl,hc⟩
 ·exact Or.inl h
 ·refine Or.inr ⟨b,off,rfl,nll hbl hb.size,fun k hk=>?_⟩
  obtain⟨a',c',h1,h2⟩:=hc k hk
  exact⟨a',c',zab hb h1,h2.below hb⟩
theorem zkP.at{w:World}{a:Option Addr}{fs:List (List Int)}(h:zkP w a fs){k:Nat}(hk:k<fs.length):∃ b off a' c',a=some ⟨b,off,none⟩/\w.cell? ⟨b,off+k,none⟩=some (.slice a' (fs.getD k []).length c')/\ziT w a' (fs.getD k []):=by
 rcases h with q|⟨b,off,e,hb,hc⟩
 ·rw[q] at hk;simp at hk
 ·obtain⟨a',c',h1,h2⟩:=hc k hk
  exact⟨b,off,a',c',e,h1,h2⟩
theorem zkE(a a2:Option Addr)(c c2:Nat)(xs ys:List Int)(w:World)(h:ziT w a xs)(h2:ziT w a2 ys)(hm:xs.length<=1099511627776) :
  Calls SqP.prog 54 #[.slice a xs.length c,.slice a2 ys.length c2] w fun e w'=>e=.returned (.bool (decide (xs=ys)))/\Below w.heap.size w w':=by
 by_cases hl:xs.length=ys.length
 ·have bl:((xs.length:Int) != (ys.length:Int))=false:=by simp[hl]
  obtain⟨N,hN⟩:∃ N,xs.length=N:=⟨_,rfl⟩
  have hN2:ys.length=N:=by omega
  have HN:Hid (xs.length=N/\ys.length=N):=⟨hN,hN2⟩
  rw[hN,hN2] at bl ⊢
  rw[hN] at hm
  clear hl hN hN2
  go_enter SqP.func54,Tryz.ntmps54
  go_wp2_with fail
  go_loopw [13,5] (fun ii _ wr=>∃ i:Nat,i<=N/\ii=.int .i64 i/\(∀ j,j<i->xs.getD j 0=ys.getD j 0)/\Below w.heap.size w wr) (fun ii _ _=>N - (intOf ii).toNat)
  case atStart=>exact⟨0,Nat.zero_le _,rfl,fun j h=>by omega,Below.refl _ _⟩
  case round =>
   rename World=>wo
   obtain⟨i,hi,rfl,hsame,hb⟩:=hrel
   by_cases hlt:i<N
   ·obtain⟨g,o,rfl,_,x0⟩:=(h.below hb).at (i:=i) (by have:=HN.out;omega)
    obtain⟨g2,o2,rfl,_,y0⟩:=(h2.below hb).at (i:=i) (by have:=HN.out;omega)
    have hil:(i:Int)<(N:Int):=by omega
    have wk:IntKind.i64.wrap ((i:Int)+1)=(i:Int)+1:=IntWalk.i64_in _ (by omega)
    have HS:Hid (∀ j,j<i->xs.getD j 0=ys.getD j 0):=hsame
    obtain⟨x,ex⟩:∃ x,xs.getD i 0=x:=⟨_,rfl⟩
    obtain⟨y,ey⟩:∃ y,ys.getD i 0=y:=⟨_,rfl⟩
    have HX:Hid (xs.getD i 0=x/\ys.getD i 0=y):=⟨ex,ey⟩
    rw[ex] at x0
    rw[ey] at y0
    clear h h2 hsame ex ey
    by_cases hxy:x=y
    ·have hne:(x != y)=false:=by simp[hxy]
     have HE:Hid (x=y):=hxy
     clear hxy
     go_wp2_with fail
     go_quiet (fail)
     have hbq:Below w.heap.size w (wo.drewN nq):=⟨hb.os,hb.tape,hb.output,hb.size,hb.block⟩
     go_wp2_with fail
     go_roundw
     case rel =>
      refine⟨i+1,by omega,by go_num,fun j hj=>?_,hbq⟩
      rcases Nat.lt_succ_iff_lt_or_eq.1 hj with q|rfl
      ·exact HS.out j q
      ·rw[HX.out.1,HX.out.2];exact HE.out
     case measure=>simp[intOf];omega
    ·have hne:(x != y)=true:=by simp[hxy]
     have HE:Hid (¬ x=y):=hxy
     clear hxy
     go_wp2_with fail
     go_quiet (fail)
     have hbq:Below w.heap.size w (wo.drewN nq):=⟨hb.os,hb.tape,hb.output,hb.size,hb.block⟩
     go_wp2_with fail
     go_ret
     refine⟨?_,hbq⟩
     rw[show decide (xs=ys)=false from decide_eq_false fun e=>HE.out (by rw[<- HX.out.1,<- HX.out.2,e])]
     rfl
   ·have hil:¬ (i:Int)<(N:Int):=by omega
    have HS:Hid (∀ j,j<i->xs.getD j 0=ys.getD j 0):=hsame
    clear hsame
    go_wp2_with fail
    go_ret
    refine⟨?_,hb⟩
    rw[show decide (xs=ys)=true from decide_eq_true (zqt (HN.out.1.trans HN.out.2.symm) fun j hj=>HS.out j (by have:=HN.out;omega))]
    rfl
 ·have bl:((xs.length:Int) != (ys.length:Int))=true:=by simp;omega
  have hd:decide (xs=ys)=false:=decide_eq_false (fun e=>hl (by rw[e]))
  rw[hd]
  clear hd hl
  go_enter SqP.func54,Tryz.ntmps54
  go_wp2_with fail
  go_ret
  exact⟨rfl,Below.refl _ _⟩
theorem znx(a a2:Option Addr)(c c2:Nat)(xs ys:List (List Int))(w:World)(h:zkP w a xs)(h2:zkP w a2 ys)(hm:xs.length<=1099511627776)(hx:∀ k,k<xs.length->(xs.getD k []).length<=1099511627776) :
  Calls SqP.prog 55 #[.slice a xs.length c,.slice a2 ys.length c2,.func (.func 54) #[] #[]] w fun e w'=>e=.returned (.bool (decide (xs=ys)))/\Below w.heap.size w w':=by
 by_cases hl:xs.length=ys.length
 ·have bl:((xs.length:Int) != (ys.length:Int))=false:=by simp[hl]
  obtain⟨N,hN⟩:∃ N,xs.length=N:=⟨_,rfl⟩
  have hN2:ys.length=N:=by omega
  have HN:Hid (xs.length=N/\ys.length=N):=⟨hN,hN2⟩
  have HX0:Hid (∀ k,k<xs.length->(xs.getD k []).length<=1099511627776):=hx
  rw[hN,hN2] at bl ⊢
  rw[hN] at hm
  clear hl hN hN2 hx
  go_enter SqP.func55,Tryz.ntmps55
  go_wp2_with fail
  go_loopw [17,7,8,9] (fun ii _ _ _ wr=>∃ i:Nat,i<=N/\ii=.int .i64 i/\(∀ j,j<i->xs.getD j []=ys.getD j [])/\Below w.heap.size w wr) (fun ii _ _ _ _=>N - (intOf ii).toNat)
  case atStart=>exact⟨0,Nat.zero_le _,rfl,fun j h=>by omega,Below.refl _ _⟩
  case round =>
   rename World=>wo
   obtain⟨i,hi,rfl,hsame,hb⟩:=hrel
   have hzo:=hb.size
   by_cases hlt:i<N
   ·obtain⟨g,o,a3,c3,rfl,x0,hX⟩:=(h.below hb).at (k:=i) (by have:=HN.out;omega)
    obtain⟨g2,o2,a4,c4,rfl,y0,hY⟩:=(h2.below hb).at (k:=i) (by have:=HN.out;omega)
    have hxl:=HX0.out i (by have:=HN.out;omega)
    have hil:(i:Int)<(N:Int):=by omega
    have wk:IntKind.i64.wrap ((i:Int)+1)=(i:Int)+1:=IntWalk.i64_in _ (by omega)
    have HS:Hid (∀ j,j<i->xs.getD j []=ys.getD j []):=hsame
    obtain⟨x,ex⟩:∃ x,xs.getD i []=x:=⟨_,rfl⟩
    obtain⟨y,ey⟩:∃ y,ys.getD i []=y:=⟨_,rfl⟩
    have HX:Hid (xs.getD i []=x/\ys.getD i []=y):=⟨ex,ey⟩
    rw[ex] at x0 hX hxl
    rw[ey] at y0 hY
    have hC:=fun w hb=>zkE a3 a4 c3 c4 x y w (hX.below hb) (hY.below hb) hxl
    clear h h2 hsame ex ey hX hY
    by_cases hxy:x=y
    ·rw[decide_eq_true hxy] at hC
     have HE:Hid (x=y):=hxy
     clear hxy
     go_wp2_with fail
     refine(hC _ (Below.refl _ _)).mono ?_
     rintro e w7 ⟨rfl,hb7⟩
     have hb8:=zak hb hzo hb7
     go_wp2_with fail
     go_roundw
     case rel =>
      refine⟨i+1,by omega,by go_num,fun j hj=>?_,hb8⟩
      rcases Nat.lt_succ_iff_lt_or_eq.1 hj with q|rfl
      ·exact HS.out j q
      ·rw[HX.out.1,HX.out.2];exact HE.out
     case measure=>simp[intOf];omega
    ·rw[decide_eq_false hxy] at hC
     have HE:Hid (¬ x=y):=hxy
     clear hxy
     go_wp2_with fail
     refine(hC _ (Below.refl _ _)).mono ?_
     rintro e w7 ⟨rfl,hb7⟩
     have hb8:=zak hb hzo hb7
     go_wp2_with fail
     go_ret
     refine⟨?_,hb8⟩
     rw[show decide (xs=ys)=false from decide_eq_false fun e=>HE.out (by rw[<- HX.out.1,<- HX.out.2,e])]
     rfl
   ·have hil:¬ (i:Int)<(N:Int):=by omega
    have HS:Hid (∀ j,j<i->xs.getD j []=ys.getD j []):=hsame
    clear hsame
    go_wp2_with fail
    go_ret
    refine⟨?_,hb⟩
    rw[show decide (xs=ys)=true from decide_eq_true (zoz (HN.out.1.trans HN.out.2.symm) fun j hj=>HS.out j (by have:=HN.out;omega))]
    rfl
 ·have bl:((xs.length:Int) != (ys.length:Int))=true:=by simp;omega
  have hd:decide (xs=ys)=false:=decide_eq_false (fun e=>hl (by rw[e]))
  rw[hd]
  clear hd hl
  go_enter SqP.func55,Tryz.ntmps55
  go_wp2_with fail
  go_ret
  exact⟨rfl,Below.refl _ _⟩
